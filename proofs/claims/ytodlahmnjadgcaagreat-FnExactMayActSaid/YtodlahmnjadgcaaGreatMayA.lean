/- MayAct, of the program and of the model. No condition of its own. -/
import Derived.Test.YtodlahmnjadgcaaGreatMpQ
import Derived.Test.YtodlahmnjadgcaaGreatMayN
import Derived.Test.YtodlahmnjadgcaaGreatInst
import Derived.Test.YtodlahmnjadgcaaGreatHasT
import Derived.Test.YtodlahmnjadgcaaGreatClicked
import Derived.Deep.LoopGhost
import Derived.Deep.RegionHeld3
namespace Go.Proofs.YtodlahmnjadgcaaGreat
open Go Go.Maps Go.ChangeShapes Go.WideShapes Go.ChangeAt Go.RowKit Go.Lib
set_option linter.unusedVariables false
set_option linter.unusedSimpArgs false
set_option maxRecDepth 100000
set_option maxHeartbeats 4000000
theorem may_elem {c : Bool} {y : DataW Unit × List MemPlace} (h : plainElem Tryz.prog 4 (.bool c) = some y) : y = (.lit (.bool c), []) := by
  obtain ⟨c', hc', hy⟩ := inv_bool _ _ h
  injection hc' with hc'
  rw [hc']; exact hy
theorem may_left {D : DataW Unit} {left : Lit → Bool} {kl : Lit} (h : ∀ z, left z = true → Maps.has D z = true) : ∀ z, (left z && !z.sameKey kl) = true → Maps.has D z = true := fun z hz => by rw [Bool.and_eq_true] at hz; exact h z hz.1
theorem may_all {D : DataW Unit} {b1 b2 : Bool} {left : Lit → Bool} (h4 : Maps.has D lInst = true ∧ ∀ zd, D.atKey lInst zd = .lit (.bool b1)) (h5 : Maps.has D lForce = true ∧ ∀ zd, D.atKey lForce zd = .lit (.bool b2))
    (hv : ∀ kl, Maps.has D kl = true → left kl = false → ∀ zd, D.atKey kl zd = .lit (.bool true)) (hl : ∀ kl, left kl = false) : (b1 && b2) = true := by
  have e1 := (h4.2 .nil).symm.trans (hv _ h4.1 (hl _) .nil)
  have e2 := (h5.2 .nil).symm.trans (hv _ h5.1 (hl _) .nil)
  injection e1 with e1
  injection e1 with e1
  injection e2 with e2
  injection e2 with e2
  rw [e1, e2]; rfl
theorem may_none {D : DataW Unit} {b1 b2 : Bool} {kl : Lit} (h3 : ∀ kl, Maps.has D kl = true → (kl = lInst ∧ (some b1).isSome = true) ∨ (kl = lForce ∧ (some b2).isSome = true)) (h4 : Maps.has D lInst = true ∧ ∀ zd, D.atKey lInst zd = .lit (.bool b1)) (h5 : Maps.has D lForce = true ∧ ∀ zd, D.atKey lForce zd = .lit (.bool b2))
    (hk : Maps.has D kl = true) (hat : ∀ zd, D.atKey kl zd = (DataW.lit (.bool false), ([] : List MemPlace)).1) : (b1 && b2) = false := by
  rcases h3 kl hk with ⟨rfl, _⟩ | ⟨rfl, _⟩
  · have e1 := (h4.2 .nil).symm.trans (hat .nil)
    injection e1 with e1
    injection e1 with e1
    rw [e1]; rfl
  · have e1 := (h5.2 .nil).symm.trans (hat .nil)
    injection e1 with e1
    injection e1 with e1
    rw [e1, Bool.and_false]
theorem may_next {D : DataW Unit} {kl : Lit} {left : Lit → Bool} (hv : ∀ kl, Maps.has D kl = true → left kl = false → ∀ zd, D.atKey kl zd = .lit (.bool true)) (hat : ∀ zd, D.atKey kl zd = (DataW.lit (.bool true), ([] : List MemPlace)).1) :
    ∀ z, Maps.has D z = true → (left z && !z.sameKey kl) = false → ∀ zd, D.atKey z zd = .lit (.bool true) := by
  intro z hz hl zd
  cases hlz : left z with
  | false => exact hv z hz hlz zd
  | true =>
    rw [hlz] at hl
    simp at hl
    rw [WideAt.sameKey_eq hl]
    exact hat zd
/-- What an extension may do at a tab now. -/
def mMayA (m : MBrowser) (ext a kd : Int) : Bool := match mTabAt m a with
  | none => false
  | some t => decide (0 ≤ mPackOf m ext) && (mAllowed m.l3 ext t.s0 kd m.p7 (mClicked t.p4 m.p7) && !mDenied m.l4 ext t.s0 kd)
set_option maxHeartbeats 16000000 in
theorem impl_MayActC (x : DBrowser) (m : MBrowser) (lo hi : Nat) (ext : Int) (a : Int) (kd : Int) (w : World) (hd : x.dat = m) (hz : m.sz ≤ 1048576) (hok : m.ok) (hr : x.rd w lo hi) (hc : x.caps) :
    Calls Tryz.prog 28 #[.agg #[.int .i64 x.p0, .slice x.A1 x.n1 x.c1, .slice x.A2 x.n2 x.c2, .slice x.A3 x.n3 x.c3, .slice x.A4 x.n4 x.c4, .slice x.A5 x.n5 x.c5, .slice x.A6 x.n6 x.c6, .int .i64 x.p7], .int .i64 ext, .int .i64 a, .int .i64 kd] w (Says (.bool (mMayA m ext a kd)) w) := by
  have CH := Lib.hid (fun W h => impl_hasTab x m lo hi a W hd hz hok h)
  have CP := Lib.hid (fun W (hW : Below w.heap.size w W) => impl_PackOf x m lo hi ext W hd hz hok (hr.new hW))
  subst hd
  have hl : x.dat.l1.length = x.l1.length := by simp [DBrowser.dat]
  rw [hl] at CH
  have HR := Lib.hid hr
  cases hin : inR a 0 ((x.l1.length : Int) - 1) with
  | false =>
    rw [hin] at CH
    have e1 : mMayA x.dat ext a kd = false := by unfold mMayA; rw [mTabAt_no hin]
    rw [e1]
    clear hin hr hz hok hl e1
    go_enter Tryz.func28, Tryz.ntmps28
    go_wp2_with fail
    refine (CH.out _ (HR.out.alloc _)).mono ?_
    rintro e w1 ⟨rfl, hb1⟩
    have HB1 := Lib.hid (below_trans ((Below.refl w.heap.size w).alloc (Nat.le_refl _) _) hb1 (by simp))
    clear hb1
    go_wp2_with fail
    go_ret
    exact ⟨rfl, HB1.out⟩
  | true =>
    rw [hin] at CH
    obtain ⟨k, t, rfl, hk, hkt, hat⟩ := mTabAt_yes hin
    have e1 : mMayA x.dat ext (k : Int) kd = (decide (0 ≤ mPackOf x.dat ext) && (mAllowed x.l3 ext t.s0 kd x.p7 (mClicked t.p4 x.p7) && !mDenied x.l4 ext t.s0 kd)) := by unfold mMayA; rw [hat]; rfl
    rw [e1]
    have hln := hr.1.len
    have hkn : k < x.n1 := by omega
    have hn1 : x.n1 ≤ 1048576 := by rw [hr.sz] at hz; omega
    have hn3 : x.n3 ≤ 1048576 := by rw [hr.sz] at hz; omega
    have hn4 : x.n4 ≤ 1048576 := by rw [hr.sz] at hz; omega
    have htz := MTab.szs_mem (x.l1.map DTab.dat) k t.dat (by rw [List.getElem?_map, hkt]; rfl)
    have htz2 : t.dat.sz ≤ 1048575 := by rw [hr.sz] at hz; omega
    have hto : t.dat.ok := hok.2.1 t.dat (List.mem_map.2 ⟨t, List.mem_of_getElem? hkt, rfl⟩)
    have HX := (hr.old).1.at_ hkt
    have hts := DTab.rd_sz HX
    have hls := DTab.rd_lens HX
    have CI := Lib.hid (fun W (hb : Below w.heap.size w W) => impl_IsClicked t.s0 t.l1 t.A1 t.n1 t.c1 0 w.heap.size t.l2 t.A2 t.n2 t.c2 0 w.heap.size t.l3 t.A3 t.n3 t.c3 0 w.heap.size t.p4 x.p7 W (by omega) (HX.1.2.new hb) (Lib.hid hto.2.1) (by omega) (HX.2.1.2.new hb) (Lib.hid hto.2.2.1) (by omega) (HX.2.2.2.new hb) (Lib.hid hto.2.2.2.1))
    have CM := Lib.hid (fun (W : World) (hb : Below w.heap.size w W) => impl_MayDoC x.l3 x.A3 x.n3 x.c3 lo hi x.l4 x.A4 x.n4 x.c4 lo hi ext t.s0 kd x.p7 (mClicked t.p4 x.p7) W hn3 (hr.2.2.1.2.new hb) hc.1 (Lib.hid hok.2.2.2.1) hn4 (hr.2.2.2.1.2.new hb) hc.2.1 (Lib.hid hok.2.2.2.2.1))
    obtain ⟨b, off, t2, hA, hlo, hhi, hkt2, hcc⟩ := rd_elem DTab.len (hr.old).1.2.1 hln hkn
    obtain rfl : t = t2 := Option.some.inj (hkt.symm.trans hkt2)
    have HCC := Lib.hid (fun (W : World) (hb : Below w.heap.size w W) (j : Nat) (u : Value) (hu : t.cells[j]? = some u) => (World.cell?_of_block (a := ⟨b, off + k * 6 + j, none⟩) (hb.block b hhi)).trans (hcc j u hu))
    generalize (mAllowed x.l3 ext t.s0 kd x.p7 (mClicked t.p4 x.p7) && !mDenied x.l4 ext t.s0 kd) = b2 at CM ⊢
    generalize mClicked t.p4 x.p7 = b3 at CI CM
    have KB0 := Lib.hid (show BoxAt (w.alloc (.cells #[.int .i64 x.p0, .slice x.A1 x.n1 x.c1, .slice x.A2 x.n2 x.c2, .slice x.A3 x.n3 x.c3, .slice x.A4 x.n4 x.c4, .slice x.A5 x.n5 x.c5, .slice x.A6 x.n6 x.c6, .int .i64 x.p7] 42)) w.heap.size 42 #[.int .i64 x.p0, .slice (some ⟨b, off, none⟩) x.n1 x.c1, .slice x.A2 x.n2 x.c2, .slice x.A3 x.n3 x.c3, .slice x.A4 x.n4 x.c4, .slice x.A5 x.n5 x.c5, .slice x.A6 x.n6 x.c6, .int .i64 x.p7] by rw [← hA]; exact box_new w 42 #[.int .i64 x.p0, .slice x.A1 x.n1 x.c1, .slice x.A2 x.n2 x.c2, .slice x.A3 x.n3 x.c3, .slice x.A4 x.n4 x.c4, .slice x.A5 x.n5 x.c5, .slice x.A6 x.n6 x.c6, .int .i64 x.p7])
    rw [hA] at CP
    replace hA := Lib.hid hA
    generalize mPackOf x.dat ext = pk at CP ⊢
    generalize hb1d : decide (0 ≤ pk) = b1
    clear hin hr hz hok hl e1 hat hkt hkt2 hcc htz htz2 hto hts hls HX hln hlo hhi hk hc
    go_enter Tryz.func28, Tryz.ntmps28
    go_wp2_with fail
    refine (CH.out _ (HR.out.alloc _)).mono ?_
    rintro e w1 ⟨rfl, hb1⟩
    have HB1 := Lib.hid (below_trans ((Below.refl w.heap.size w).alloc (Nat.le_refl _) _) hb1 (by simp))
    have KB1 := Lib.hid (KB0.out.new hb1)
    clear hb1
    have k1 := KB1.out.at_ (j := 1) (u := .slice (some ⟨b, off, none⟩) x.n1 x.c1) rfl
    have c0 : w1.cell? ⟨b, off + k * 6, none⟩ = some (.int .i64 t.s0.f0) := HCC.out w1 HB1.out 0 _ rfl
    have c1 : w1.cell? ⟨b, off + k * 6 + 1, none⟩ = some (.int .i64 t.s0.f1) := HCC.out w1 HB1.out 1 _ rfl
    have c2 : w1.cell? ⟨b, off + k * 6 + 2, none⟩ = some (.slice t.A1 t.n1 t.c1) := HCC.out w1 HB1.out 2 _ rfl
    have c3 : w1.cell? ⟨b, off + k * 6 + 3, none⟩ = some (.slice t.A2 t.n2 t.c2) := HCC.out w1 HB1.out 3 _ rfl
    have c4 : w1.cell? ⟨b, off + k * 6 + 4, none⟩ = some (.slice t.A3 t.n3 t.c3) := HCC.out w1 HB1.out 4 _ rfl
    have c5 : w1.cell? ⟨b, off + k * 6 + 5, none⟩ = some (.int .i64 t.p4) := HCC.out w1 HB1.out 5 _ rfl
    have KBv := Lib.hid (KB1.out.alloc_ (.cells #[.int .i64 t.s0.f0, .int .i64 t.s0.f1, .slice t.A1 t.n1 t.c1, .slice t.A2 t.n2 t.c2, .slice t.A3 t.n3 t.c3, .int .i64 t.p4] 105))
    have KTv := Lib.hid (box_new w1 105 #[.int .i64 t.s0.f0, .int .i64 t.s0.f1, .slice t.A1 t.n1 t.c1, .slice t.A2 t.n2 t.c2, .slice t.A3 t.n3 t.c3, .int .i64 t.p4])
    have HBv := Lib.hid (HB1.out.alloc HB1.out.size (.cells #[.int .i64 t.s0.f0, .int .i64 t.s0.f1, .slice t.A1 t.n1 t.c1, .slice t.A2 t.n2 t.c2, .slice t.A3 t.n3 t.c3, .int .i64 t.p4] 105))
    have hmm := make_mapQ
    go_wp2_with fail
    refine wp_region_held_drew (S := fun w' => BoxAt w' w.heap.size 42 #[.int .i64 x.p0, .slice (some ⟨b, off, none⟩) x.n1 x.c1, .slice x.A2 x.n2 x.c2, .slice x.A3 x.n3 x.c3, .slice x.A4 x.n4 x.c4, .slice x.A5 x.n5 x.c5, .slice x.A6 x.n6 x.c6, .int .i64 x.p7] ∧ BoxAt w' w1.heap.size 105 #[.int .i64 t.s0.f0, .int .i64 t.s0.f1, .slice t.A1 t.n1 t.c1, .slice t.A2 t.n2 t.c2, .slice t.A3 t.n3 t.c3, .int .i64 t.p4] ∧ Below w.heap.size w w') (by kernel_rfl) ?_ (fun hHeld => ?_)
    · exact ⟨KBv.out.drw, KTv.out.drw, HBv.out.drew⟩
    generalize (World.drew _) = x0 at hHeld ⊢
    refine wpAnyH_take (i := 1) (oi := ⟨some 23, _, _, _, _, _⟩) (v := ?_) rfl (by kernel_rfl) (by kernel_rfl) (by kernel_rfl) (fun _ _ _ h => h) (Or.inl ⟨by kernel_rfl, ?_⟩) hHeld ?_
    rotate_left
    focus (intro W hS; have c0_0 := (hS.1).at_ (j := 0) rfl; have c0_1 := (hS.1).at_ (j := 1) rfl; have c0_2 := (hS.1).at_ (j := 2) rfl; have c0_3 := (hS.1).at_ (j := 3) rfl; have c0_4 := (hS.1).at_ (j := 4) rfl; have c0_5 := (hS.1).at_ (j := 5) rfl; have c0_6 := (hS.1).at_ (j := 6) rfl; have c0_7 := (hS.1).at_ (j := 7) rfl; have c1_0 := (hS.2.1).at_ (j := 0) rfl; have c1_1 := (hS.2.1).at_ (j := 1) rfl; have c1_2 := (hS.2.1).at_ (j := 2) rfl; have c1_3 := (hS.2.1).at_ (j := 3) rfl; have c1_4 := (hS.2.1).at_ (j := 4) rfl; have c1_5 := (hS.2.1).at_ (j := 5) rfl; clear hS; first | (go_simp; done) | (go_simp; with_reducible rfl))
    try simp only [Act.put, List.setIfInBounds_toArray, List.set_cons_zero, List.set_cons_succ]
    refine wpAnyH_take (i := 2) (oi := ⟨some 24, _, _, _, _, _⟩) (v := ?_) rfl (by kernel_rfl) (by kernel_rfl) (by kernel_rfl) (fun _ _ _ h => h) (Or.inl ⟨by kernel_rfl, ?_⟩) hHeld ?_
    rotate_left
    focus (intro W hS; have c0_0 := (hS.1).at_ (j := 0) rfl; have c0_1 := (hS.1).at_ (j := 1) rfl; have c0_2 := (hS.1).at_ (j := 2) rfl; have c0_3 := (hS.1).at_ (j := 3) rfl; have c0_4 := (hS.1).at_ (j := 4) rfl; have c0_5 := (hS.1).at_ (j := 5) rfl; have c0_6 := (hS.1).at_ (j := 6) rfl; have c0_7 := (hS.1).at_ (j := 7) rfl; have c1_0 := (hS.2.1).at_ (j := 0) rfl; have c1_1 := (hS.2.1).at_ (j := 1) rfl; have c1_2 := (hS.2.1).at_ (j := 2) rfl; have c1_3 := (hS.2.1).at_ (j := 3) rfl; have c1_4 := (hS.2.1).at_ (j := 4) rfl; have c1_5 := (hS.2.1).at_ (j := 5) rfl; clear hS; first | (go_simp; done) | (go_simp; with_reducible rfl))
    try simp only [Act.put, List.setIfInBounds_toArray, List.set_cons_zero, List.set_cons_succ]
    refine wpAnyH_take (i := 6) (oi := ⟨some 27, _, _, _, _, _⟩) (v := ?_) rfl (by kernel_rfl) (by kernel_rfl) (by kernel_rfl) (fun _ _ _ h => h) (Or.inl ⟨by kernel_rfl, ?_⟩) hHeld ?_
    rotate_left
    focus (intro W hS; have c0_0 := (hS.1).at_ (j := 0) rfl; have c0_1 := (hS.1).at_ (j := 1) rfl; have c0_2 := (hS.1).at_ (j := 2) rfl; have c0_3 := (hS.1).at_ (j := 3) rfl; have c0_4 := (hS.1).at_ (j := 4) rfl; have c0_5 := (hS.1).at_ (j := 5) rfl; have c0_6 := (hS.1).at_ (j := 6) rfl; have c0_7 := (hS.1).at_ (j := 7) rfl; have c1_0 := (hS.2.1).at_ (j := 0) rfl; have c1_1 := (hS.2.1).at_ (j := 1) rfl; have c1_2 := (hS.2.1).at_ (j := 2) rfl; have c1_3 := (hS.2.1).at_ (j := 3) rfl; have c1_4 := (hS.2.1).at_ (j := 4) rfl; have c1_5 := (hS.2.1).at_ (j := 5) rfl; clear hS; first | (go_simp; done) | (go_simp; with_reducible rfl))
    try simp only [Act.put, List.setIfInBounds_toArray, List.set_cons_zero, List.set_cons_succ]
    refine wpAnyH_take (i := 7) (oi := ⟨some 28, _, _, _, _, _⟩) (v := ?_) rfl (by kernel_rfl) (by kernel_rfl) (by kernel_rfl) (fun _ _ _ h => h) (Or.inl ⟨by kernel_rfl, ?_⟩) hHeld ?_
    rotate_left
    focus (intro W hS; have c0_0 := (hS.1).at_ (j := 0) rfl; have c0_1 := (hS.1).at_ (j := 1) rfl; have c0_2 := (hS.1).at_ (j := 2) rfl; have c0_3 := (hS.1).at_ (j := 3) rfl; have c0_4 := (hS.1).at_ (j := 4) rfl; have c0_5 := (hS.1).at_ (j := 5) rfl; have c0_6 := (hS.1).at_ (j := 6) rfl; have c0_7 := (hS.1).at_ (j := 7) rfl; have c1_0 := (hS.2.1).at_ (j := 0) rfl; have c1_1 := (hS.2.1).at_ (j := 1) rfl; have c1_2 := (hS.2.1).at_ (j := 2) rfl; have c1_3 := (hS.2.1).at_ (j := 3) rfl; have c1_4 := (hS.2.1).at_ (j := 4) rfl; have c1_5 := (hS.2.1).at_ (j := 5) rfl; clear hS; first | (go_simp; done) | (go_simp; with_reducible rfl))
    try simp only [Act.put, List.setIfInBounds_toArray, List.set_cons_zero, List.set_cons_succ]
    refine wpAnyH_take (i := 8) (oi := ⟨some 29, _, _, _, _, _⟩) (v := ?_) rfl (by kernel_rfl) (by kernel_rfl) (by kernel_rfl) (fun _ _ _ h => h) (Or.inl ⟨by kernel_rfl, ?_⟩) hHeld ?_
    rotate_left
    focus (intro W hS; have c0_0 := (hS.1).at_ (j := 0) rfl; have c0_1 := (hS.1).at_ (j := 1) rfl; have c0_2 := (hS.1).at_ (j := 2) rfl; have c0_3 := (hS.1).at_ (j := 3) rfl; have c0_4 := (hS.1).at_ (j := 4) rfl; have c0_5 := (hS.1).at_ (j := 5) rfl; have c0_6 := (hS.1).at_ (j := 6) rfl; have c0_7 := (hS.1).at_ (j := 7) rfl; have c1_0 := (hS.2.1).at_ (j := 0) rfl; have c1_1 := (hS.2.1).at_ (j := 1) rfl; have c1_2 := (hS.2.1).at_ (j := 2) rfl; have c1_3 := (hS.2.1).at_ (j := 3) rfl; have c1_4 := (hS.2.1).at_ (j := 4) rfl; have c1_5 := (hS.2.1).at_ (j := 5) rfl; clear hS; first | (go_simp; done) | (go_simp; with_reducible rfl))
    try simp only [Act.put, List.setIfInBounds_toArray, List.set_cons_zero, List.set_cons_succ]
    refine wpAnyH_take (i := 9) (oi := ⟨some 30, _, _, _, _, _⟩) (v := ?_) rfl (by kernel_rfl) (by kernel_rfl) (by kernel_rfl) (fun _ _ _ h => h) (Or.inl ⟨by kernel_rfl, ?_⟩) hHeld ?_
    rotate_left
    focus (intro W hS; have c0_0 := (hS.1).at_ (j := 0) rfl; have c0_1 := (hS.1).at_ (j := 1) rfl; have c0_2 := (hS.1).at_ (j := 2) rfl; have c0_3 := (hS.1).at_ (j := 3) rfl; have c0_4 := (hS.1).at_ (j := 4) rfl; have c0_5 := (hS.1).at_ (j := 5) rfl; have c0_6 := (hS.1).at_ (j := 6) rfl; have c0_7 := (hS.1).at_ (j := 7) rfl; have c1_0 := (hS.2.1).at_ (j := 0) rfl; have c1_1 := (hS.2.1).at_ (j := 1) rfl; have c1_2 := (hS.2.1).at_ (j := 2) rfl; have c1_3 := (hS.2.1).at_ (j := 3) rfl; have c1_4 := (hS.2.1).at_ (j := 4) rfl; have c1_5 := (hS.2.1).at_ (j := 5) rfl; clear hS; first | (go_simp; done) | (go_simp; with_reducible rfl))
    try simp only [Act.put, List.setIfInBounds_toArray, List.set_cons_zero, List.set_cons_succ]
    refine wpAnyH_take (i := 10) (oi := ⟨some 31, _, _, _, _, _⟩) (v := ?_) rfl (by kernel_rfl) (by kernel_rfl) (by kernel_rfl) (fun _ _ _ h => h) (Or.inl ⟨by kernel_rfl, ?_⟩) hHeld ?_
    rotate_left
    focus (intro W hS; have c0_0 := (hS.1).at_ (j := 0) rfl; have c0_1 := (hS.1).at_ (j := 1) rfl; have c0_2 := (hS.1).at_ (j := 2) rfl; have c0_3 := (hS.1).at_ (j := 3) rfl; have c0_4 := (hS.1).at_ (j := 4) rfl; have c0_5 := (hS.1).at_ (j := 5) rfl; have c0_6 := (hS.1).at_ (j := 6) rfl; have c0_7 := (hS.1).at_ (j := 7) rfl; have c1_0 := (hS.2.1).at_ (j := 0) rfl; have c1_1 := (hS.2.1).at_ (j := 1) rfl; have c1_2 := (hS.2.1).at_ (j := 2) rfl; have c1_3 := (hS.2.1).at_ (j := 3) rfl; have c1_4 := (hS.2.1).at_ (j := 4) rfl; have c1_5 := (hS.2.1).at_ (j := 5) rfl; clear hS; first | (go_simp; done) | (go_simp; with_reducible rfl))
    try simp only [Act.put, List.setIfInBounds_toArray, List.set_cons_zero, List.set_cons_succ]
    refine wpAnyH_take (i := 11) (oi := ⟨some 32, _, _, _, _, _⟩) (v := ?_) rfl (by kernel_rfl) (by kernel_rfl) (by kernel_rfl) (fun _ _ _ h => h) (Or.inl ⟨by kernel_rfl, ?_⟩) hHeld ?_
    rotate_left
    focus (intro W hS; have c0_0 := (hS.1).at_ (j := 0) rfl; have c0_1 := (hS.1).at_ (j := 1) rfl; have c0_2 := (hS.1).at_ (j := 2) rfl; have c0_3 := (hS.1).at_ (j := 3) rfl; have c0_4 := (hS.1).at_ (j := 4) rfl; have c0_5 := (hS.1).at_ (j := 5) rfl; have c0_6 := (hS.1).at_ (j := 6) rfl; have c0_7 := (hS.1).at_ (j := 7) rfl; have c1_0 := (hS.2.1).at_ (j := 0) rfl; have c1_1 := (hS.2.1).at_ (j := 1) rfl; have c1_2 := (hS.2.1).at_ (j := 2) rfl; have c1_3 := (hS.2.1).at_ (j := 3) rfl; have c1_4 := (hS.2.1).at_ (j := 4) rfl; have c1_5 := (hS.2.1).at_ (j := 5) rfl; clear hS; first | (go_simp; done) | (go_simp; with_reducible rfl))
    try simp only [Act.put, List.setIfInBounds_toArray, List.set_cons_zero, List.set_cons_succ]
    refine wpAnyH_take (i := 12) (oi := ⟨some 33, _, _, _, _, _⟩) (v := ?_) rfl (by kernel_rfl) (by kernel_rfl) (by kernel_rfl) (fun _ _ _ h => h) (Or.inl ⟨by kernel_rfl, ?_⟩) hHeld ?_
    rotate_left
    focus (intro W hS; have c0_0 := (hS.1).at_ (j := 0) rfl; have c0_1 := (hS.1).at_ (j := 1) rfl; have c0_2 := (hS.1).at_ (j := 2) rfl; have c0_3 := (hS.1).at_ (j := 3) rfl; have c0_4 := (hS.1).at_ (j := 4) rfl; have c0_5 := (hS.1).at_ (j := 5) rfl; have c0_6 := (hS.1).at_ (j := 6) rfl; have c0_7 := (hS.1).at_ (j := 7) rfl; have c1_0 := (hS.2.1).at_ (j := 0) rfl; have c1_1 := (hS.2.1).at_ (j := 1) rfl; have c1_2 := (hS.2.1).at_ (j := 2) rfl; have c1_3 := (hS.2.1).at_ (j := 3) rfl; have c1_4 := (hS.2.1).at_ (j := 4) rfl; have c1_5 := (hS.2.1).at_ (j := 5) rfl; clear hS; first | (go_simp; done) | (go_simp; with_reducible rfl))
    try simp only [Act.put, List.setIfInBounds_toArray, List.set_cons_zero, List.set_cons_succ]
    refine wpAnyH_take (i := 13) (oi := ⟨some 34, _, _, _, _, _⟩) (v := ?_) rfl (by kernel_rfl) (by kernel_rfl) (by kernel_rfl) (fun _ _ _ h => h) (Or.inl ⟨by kernel_rfl, ?_⟩) hHeld ?_
    rotate_left
    focus (intro W hS; have c0_0 := (hS.1).at_ (j := 0) rfl; have c0_1 := (hS.1).at_ (j := 1) rfl; have c0_2 := (hS.1).at_ (j := 2) rfl; have c0_3 := (hS.1).at_ (j := 3) rfl; have c0_4 := (hS.1).at_ (j := 4) rfl; have c0_5 := (hS.1).at_ (j := 5) rfl; have c0_6 := (hS.1).at_ (j := 6) rfl; have c0_7 := (hS.1).at_ (j := 7) rfl; have c1_0 := (hS.2.1).at_ (j := 0) rfl; have c1_1 := (hS.2.1).at_ (j := 1) rfl; have c1_2 := (hS.2.1).at_ (j := 2) rfl; have c1_3 := (hS.2.1).at_ (j := 3) rfl; have c1_4 := (hS.2.1).at_ (j := 4) rfl; have c1_5 := (hS.2.1).at_ (j := 5) rfl; clear hS; first | (go_simp; done) | (go_simp; with_reducible rfl))
    try simp only [Act.put, List.setIfInBounds_toArray, List.set_cons_zero, List.set_cons_succ]
    refine wpAnyH_take (i := 14) (oi := ⟨some 35, _, _, _, _, _⟩) (v := ?_) rfl (by kernel_rfl) (by kernel_rfl) (by kernel_rfl) (fun _ _ _ h => h) (Or.inl ⟨by kernel_rfl, ?_⟩) hHeld ?_
    rotate_left
    focus (intro W hS; have c0_0 := (hS.1).at_ (j := 0) rfl; have c0_1 := (hS.1).at_ (j := 1) rfl; have c0_2 := (hS.1).at_ (j := 2) rfl; have c0_3 := (hS.1).at_ (j := 3) rfl; have c0_4 := (hS.1).at_ (j := 4) rfl; have c0_5 := (hS.1).at_ (j := 5) rfl; have c0_6 := (hS.1).at_ (j := 6) rfl; have c0_7 := (hS.1).at_ (j := 7) rfl; have c1_0 := (hS.2.1).at_ (j := 0) rfl; have c1_1 := (hS.2.1).at_ (j := 1) rfl; have c1_2 := (hS.2.1).at_ (j := 2) rfl; have c1_3 := (hS.2.1).at_ (j := 3) rfl; have c1_4 := (hS.2.1).at_ (j := 4) rfl; have c1_5 := (hS.2.1).at_ (j := 5) rfl; clear hS; first | (go_simp; done) | (go_simp; with_reducible rfl))
    try simp only [Act.put, List.setIfInBounds_toArray, List.set_cons_zero, List.set_cons_succ]
    refine wpAnyH_take (i := 15) (oi := ⟨some 36, _, _, _, _, _⟩) (v := ?_) rfl (by kernel_rfl) (by kernel_rfl) (by kernel_rfl) (fun _ _ _ h => h) (Or.inl ⟨by kernel_rfl, ?_⟩) hHeld ?_
    rotate_left
    focus (intro W hS; have c0_0 := (hS.1).at_ (j := 0) rfl; have c0_1 := (hS.1).at_ (j := 1) rfl; have c0_2 := (hS.1).at_ (j := 2) rfl; have c0_3 := (hS.1).at_ (j := 3) rfl; have c0_4 := (hS.1).at_ (j := 4) rfl; have c0_5 := (hS.1).at_ (j := 5) rfl; have c0_6 := (hS.1).at_ (j := 6) rfl; have c0_7 := (hS.1).at_ (j := 7) rfl; have c1_0 := (hS.2.1).at_ (j := 0) rfl; have c1_1 := (hS.2.1).at_ (j := 1) rfl; have c1_2 := (hS.2.1).at_ (j := 2) rfl; have c1_3 := (hS.2.1).at_ (j := 3) rfl; have c1_4 := (hS.2.1).at_ (j := 4) rfl; have c1_5 := (hS.2.1).at_ (j := 5) rfl; clear hS; first | (go_simp; done) | (go_simp; with_reducible rfl))
    try simp only [Act.put, List.setIfInBounds_toArray, List.set_cons_zero, List.set_cons_succ]
    refine wpAnyH_take (i := 16) (oi := ⟨some 37, _, _, _, _, _⟩) (v := ?_) rfl (by kernel_rfl) (by kernel_rfl) (by kernel_rfl) (fun _ _ _ h => h) (Or.inl ⟨by kernel_rfl, ?_⟩) hHeld ?_
    rotate_left
    focus (intro W hS; have c0_0 := (hS.1).at_ (j := 0) rfl; have c0_1 := (hS.1).at_ (j := 1) rfl; have c0_2 := (hS.1).at_ (j := 2) rfl; have c0_3 := (hS.1).at_ (j := 3) rfl; have c0_4 := (hS.1).at_ (j := 4) rfl; have c0_5 := (hS.1).at_ (j := 5) rfl; have c0_6 := (hS.1).at_ (j := 6) rfl; have c0_7 := (hS.1).at_ (j := 7) rfl; have c1_0 := (hS.2.1).at_ (j := 0) rfl; have c1_1 := (hS.2.1).at_ (j := 1) rfl; have c1_2 := (hS.2.1).at_ (j := 2) rfl; have c1_3 := (hS.2.1).at_ (j := 3) rfl; have c1_4 := (hS.2.1).at_ (j := 4) rfl; have c1_5 := (hS.2.1).at_ (j := 5) rfl; clear hS; first | (go_simp; done) | (go_simp; with_reducible rfl))
    try simp only [Act.put, List.setIfInBounds_toArray, List.set_cons_zero, List.set_cons_succ]
    refine wpAnyH_take (i := 17) (oi := ⟨some 38, _, _, _, _, _⟩) (v := ?_) rfl (by kernel_rfl) (by kernel_rfl) (by kernel_rfl) (fun _ _ _ h => h) (Or.inl ⟨by kernel_rfl, ?_⟩) hHeld ?_
    rotate_left
    focus (intro W hS; have c0_0 := (hS.1).at_ (j := 0) rfl; have c0_1 := (hS.1).at_ (j := 1) rfl; have c0_2 := (hS.1).at_ (j := 2) rfl; have c0_3 := (hS.1).at_ (j := 3) rfl; have c0_4 := (hS.1).at_ (j := 4) rfl; have c0_5 := (hS.1).at_ (j := 5) rfl; have c0_6 := (hS.1).at_ (j := 6) rfl; have c0_7 := (hS.1).at_ (j := 7) rfl; have c1_0 := (hS.2.1).at_ (j := 0) rfl; have c1_1 := (hS.2.1).at_ (j := 1) rfl; have c1_2 := (hS.2.1).at_ (j := 2) rfl; have c1_3 := (hS.2.1).at_ (j := 3) rfl; have c1_4 := (hS.2.1).at_ (j := 4) rfl; have c1_5 := (hS.2.1).at_ (j := 5) rfl; clear hS; first | (go_simp; done) | (go_simp; with_reducible rfl))
    try simp only [Act.put, List.setIfInBounds_toArray, List.set_cons_zero, List.set_cons_succ]
    refine wpAnyH_take (i := 18) (oi := ⟨some 39, _, _, _, _, _⟩) (v := ?_) rfl (by kernel_rfl) (by kernel_rfl) (by kernel_rfl) (fun _ _ _ h => h) (Or.inl ⟨by kernel_rfl, ?_⟩) hHeld ?_
    rotate_left
    focus (intro W hS; have c0_0 := (hS.1).at_ (j := 0) rfl; have c0_1 := (hS.1).at_ (j := 1) rfl; have c0_2 := (hS.1).at_ (j := 2) rfl; have c0_3 := (hS.1).at_ (j := 3) rfl; have c0_4 := (hS.1).at_ (j := 4) rfl; have c0_5 := (hS.1).at_ (j := 5) rfl; have c0_6 := (hS.1).at_ (j := 6) rfl; have c0_7 := (hS.1).at_ (j := 7) rfl; have c1_0 := (hS.2.1).at_ (j := 0) rfl; have c1_1 := (hS.2.1).at_ (j := 1) rfl; have c1_2 := (hS.2.1).at_ (j := 2) rfl; have c1_3 := (hS.2.1).at_ (j := 3) rfl; have c1_4 := (hS.2.1).at_ (j := 4) rfl; have c1_5 := (hS.2.1).at_ (j := 5) rfl; clear hS; first | (go_simp; done) | (go_simp; with_reducible rfl))
    try simp only [Act.put, List.setIfInBounds_toArray, List.set_cons_zero, List.set_cons_succ]
    refine wpAnyH_ready (rs := [0, 3]) (by kernel_rfl) (by simp) ?_
    refine AllReadyH.cons (o := ⟨some 22, _, _, _, _, _⟩) rfl (fun K hK => ?_) ?_
    · skip
      go_simp
      have GQ := mapQ_made x0
      have hb1 := (Below.refl (x0).heap.size x0).alloc (Nat.le_refl _) (.map #[] 0)
      have M0Q : w.heap.size < (x0).heap.size := hHeld.1.lt
      have M1Q : w1.heap.size < (x0).heap.size := hHeld.2.1.lt
      generalize (x0).alloc (.map #[] 0) = xm at hb1 GQ ⊢
      generalize hg : (x0).heap.size = gQ at GQ M0Q M1Q ⊢
      have hb2 : Below (x0).heap.size x0 xm := by rw [hg]; rw [hg] at hb1; exact hb1
      clear hg hb1
      refine hK.out _ _ ⟨hHeld.1.new hb2, hHeld.2.1.new hb2, below_trans hHeld.2.2 hb2 (Nat.le_refl _)⟩ (fun hHeld' => ?_)
      clear hK K hHeld hb2
      have hHeld := hHeld'
      clear hHeld'
      generalize xm = x1 at hHeld GQ ⊢
      try simp only [Act.put, List.setIfInBounds_toArray, List.set_cons_zero, List.set_cons_succ]
      refine wpAnyH_ready (rs := [3]) (by kernel_rfl) (by simp) ?_
      refine AllReadyH.cons (o := ⟨some 25, _, _, _, _, _⟩) rfl (fun K hK => ?_) AllReadyH.nil
      go_simp
      refine Calls.mono (CP.out _ hHeld.2.2) ?_
      rintro e x2 ⟨rfl, hb1⟩
      replace GQ := GQ.new hb1
      refine hK.out _ _ ⟨hHeld.1.new hb1, hHeld.2.1.new hb1, below_trans hHeld.2.2 hb1 (Nat.le_refl _)⟩ (fun hHeld' => ?_)
      clear hK K hHeld hb1
      have hHeld := hHeld'
      clear hHeld'
      try simp only [Act.put, List.setIfInBounds_toArray, List.set_cons_zero, List.set_cons_succ]
      refine wpAnyH_take (i := 4) (oi := ⟨some 26, _, _, _, _, _⟩) (v := ?_) rfl (by kernel_rfl) (by kernel_rfl) (by kernel_rfl) (fun _ _ _ h => h) (Or.inl ⟨by kernel_rfl, ?_⟩) hHeld ?_
      rotate_left
      focus (intro W hS; have c0_0 := (hS.1).at_ (j := 0) rfl; have c0_1 := (hS.1).at_ (j := 1) rfl; have c0_2 := (hS.1).at_ (j := 2) rfl; have c0_3 := (hS.1).at_ (j := 3) rfl; have c0_4 := (hS.1).at_ (j := 4) rfl; have c0_5 := (hS.1).at_ (j := 5) rfl; have c0_6 := (hS.1).at_ (j := 6) rfl; have c0_7 := (hS.1).at_ (j := 7) rfl; have c1_0 := (hS.2.1).at_ (j := 0) rfl; have c1_1 := (hS.2.1).at_ (j := 1) rfl; have c1_2 := (hS.2.1).at_ (j := 2) rfl; have c1_3 := (hS.2.1).at_ (j := 3) rfl; have c1_4 := (hS.2.1).at_ (j := 4) rfl; have c1_5 := (hS.2.1).at_ (j := 5) rfl; clear hS; first | (go_simp; done) | (go_simp; with_reducible rfl))
      try simp only [Act.put, List.setIfInBounds_toArray, List.set_cons_zero, List.set_cons_succ]
      refine wpAnyH_ready (rs := [5, 19]) (by kernel_rfl) (by simp) ?_
      refine AllReadyH.cons (o := ⟨none, _, _, _, _, _⟩) rfl (fun K hK => ?_) ?_
      · skip
        obtain ⟨xq, hrun, hGQ, hgr⟩ := GQ.put1 (by unfold maxLen; omega) b1
        go_simp
        refine hK.out _ _ ⟨hHeld.1.grown hgr (by omega), hHeld.2.1.grown hgr (by omega), grown_below hHeld.2.2 hgr (Nat.le_refl _) (fun q hq => by injection hq with hq; omega)⟩ (fun hHeld' => ?_)
        clear hK K hHeld hrun hgr
        replace GQ := hGQ
        clear hGQ
        have hHeld := hHeld'
        clear hHeld'
        generalize xq = x3 at hHeld GQ ⊢
        try simp only [Act.put, List.setIfInBounds_toArray, List.set_cons_zero, List.set_cons_succ]
        refine wpAnyH_ready (rs := [19]) (by kernel_rfl) (by simp) ?_
        refine AllReadyH.cons (o := ⟨some 40, _, _, _, _, _⟩) rfl (fun K hK => ?_) AllReadyH.nil
        go_simp
        refine Calls.mono (CI.out _ hHeld.2.2) ?_
        rintro e x4 ⟨rfl, hb1⟩
        replace GQ := GQ.new hb1
        refine hK.out _ _ ⟨hHeld.1.new hb1, hHeld.2.1.new hb1, below_trans hHeld.2.2 hb1 (Nat.le_refl _)⟩ (fun hHeld' => ?_)
        clear hK K hHeld hb1
        have hHeld := hHeld'
        clear hHeld'
        try simp only [Act.put, List.setIfInBounds_toArray, List.set_cons_zero, List.set_cons_succ]
        refine wpAnyH_ready (rs := [20]) (by kernel_rfl) (by simp) ?_
        refine AllReadyH.cons (o := ⟨some 41, _, _, _, _, _⟩) rfl (fun K hK => ?_) AllReadyH.nil
        go_simp
        refine Calls.mono (CM.out _ hHeld.2.2) ?_
        rintro e x5 ⟨rfl, hb1⟩
        replace GQ := GQ.new hb1
        refine hK.out _ _ ⟨hHeld.1.new hb1, hHeld.2.1.new hb1, below_trans hHeld.2.2 hb1 (Nat.le_refl _)⟩ (fun hHeld' => ?_)
        clear hK K hHeld hb1
        have hHeld := hHeld'
        clear hHeld'
        try simp only [Act.put, List.setIfInBounds_toArray, List.set_cons_zero, List.set_cons_succ]
        refine wpAnyH_ready (rs := [21]) (by kernel_rfl) (by simp) ?_
        refine AllReadyH.cons (o := ⟨none, _, _, _, _, _⟩) rfl (fun K hK => ?_) AllReadyH.nil
        obtain ⟨xq, hrun, hGQ, hgr⟩ := GQ.put2 (by unfold maxLen; omega) b2
        go_simp
        refine hK.out _ _ ⟨hHeld.1.grown hgr (by omega), hHeld.2.1.grown hgr (by omega), grown_below hHeld.2.2 hgr (Nat.le_refl _) (fun q hq => by injection hq with hq; omega)⟩ (fun hHeld' => ?_)
        clear hK K hHeld hrun hgr
        replace GQ := hGQ
        clear hGQ
        have hHeld := hHeld'
        clear hHeld'
        generalize xq = x6 at hHeld GQ ⊢
        try simp only [Act.put, List.setIfInBounds_toArray, List.set_cons_zero, List.set_cons_succ]
        refine wpAnyH_take (i := 22) (oi := ⟨some 42, _, _, _, _, _⟩) (v := ?_) rfl (by kernel_rfl) (by kernel_rfl) (by kernel_rfl) (fun _ _ _ h => h) (Or.inl ⟨by kernel_rfl, ?_⟩) hHeld ?_
        rotate_left
        focus (intro W hS; have c0_0 := (hS.1).at_ (j := 0) rfl; have c0_1 := (hS.1).at_ (j := 1) rfl; have c0_2 := (hS.1).at_ (j := 2) rfl; have c0_3 := (hS.1).at_ (j := 3) rfl; have c0_4 := (hS.1).at_ (j := 4) rfl; have c0_5 := (hS.1).at_ (j := 5) rfl; have c0_6 := (hS.1).at_ (j := 6) rfl; have c0_7 := (hS.1).at_ (j := 7) rfl; have c1_0 := (hS.2.1).at_ (j := 0) rfl; have c1_1 := (hS.2.1).at_ (j := 1) rfl; have c1_2 := (hS.2.1).at_ (j := 2) rfl; have c1_3 := (hS.2.1).at_ (j := 3) rfl; have c1_4 := (hS.2.1).at_ (j := 4) rfl; have c1_5 := (hS.2.1).at_ (j := 5) rfl; clear hS; first | (go_simp; done) | (go_simp; with_reducible rfl))
        try simp only [Act.put, List.setIfInBounds_toArray, List.set_cons_zero, List.set_cons_succ]
        refine wpAnyH_take (i := 23) (oi := ⟨some 10, _, _, _, _, _⟩) (v := ?_) rfl (by kernel_rfl) (by kernel_rfl) (by kernel_rfl) (fun _ _ _ h => h) (Or.inl ⟨by kernel_rfl, ?_⟩) hHeld ?_
        rotate_left
        focus (intro W hS; have c0_0 := (hS.1).at_ (j := 0) rfl; have c0_1 := (hS.1).at_ (j := 1) rfl; have c0_2 := (hS.1).at_ (j := 2) rfl; have c0_3 := (hS.1).at_ (j := 3) rfl; have c0_4 := (hS.1).at_ (j := 4) rfl; have c0_5 := (hS.1).at_ (j := 5) rfl; have c0_6 := (hS.1).at_ (j := 6) rfl; have c0_7 := (hS.1).at_ (j := 7) rfl; have c1_0 := (hS.2.1).at_ (j := 0) rfl; have c1_1 := (hS.2.1).at_ (j := 1) rfl; have c1_2 := (hS.2.1).at_ (j := 2) rfl; have c1_3 := (hS.2.1).at_ (j := 3) rfl; have c1_4 := (hS.2.1).at_ (j := 4) rfl; have c1_5 := (hS.2.1).at_ (j := 5) rfl; clear hS; first | (go_simp; done) | (go_simp; with_reducible rfl))
        try simp only [Act.put, List.setIfInBounds_toArray, List.set_cons_zero, List.set_cons_succ]
        refine wpAnyH_done (by kernel_rfl) ?_ _
        rename World => X
        have HBq := Lib.hid hHeld.2.2
        obtain ⟨D, h1, h2, h3, h4, h5⟩ := GQ
        have HO := Lib.hid h1
        have H3 := Lib.hid h3
        have HP4 := Lib.hid (h4 b1 rfl)
        have HP5 := Lib.hid (h5 b2 rfl)
        clear hHeld h1 h2 h3 h4 h5
        go_wp2_with (at_range; refine wpList_range_own _ rfl _ _ rfl _ _ keyed_str under_q _ gQ 2 D rfl HO.out ?_; intro w0 hrg0 hg0 hs0)
        go_frame
        have HRG0 := Lib.hid hrg0
        have HB0 := Lib.hid (grown_below HBq.out hg0 (Nat.le_refl _) (fun k h => by cases h))
        clear hrg0 hg0 hs0
        go_loopw [12] (fun v wr => ∃ (left : Lit → Bool) (cnt : Nat), Hid (wr.ranges Tryz.prog 9 (plainElem Tryz.prog 4) gQ X.heap.size 2 D left cnt) ∧ Hid (∀ kl, left kl = true → Maps.has D kl = true) ∧ Hid (∀ kl, Maps.has D kl = true → left kl = false → ∀ zd, D.atKey kl zd = .lit (.bool true)) ∧ Hid (Below w.heap.size w wr)) (fun _ wr => wr.rangeLeft gQ X.heap.size)
        case atStart => exact ⟨_, _, HRG0, Lib.hid (fun kl h => h), Lib.hid (fun kl h h2 => by rw [h] at h2; cases h2), HB0⟩
        case round =>
          obtain ⟨left, cnt, HRG, HLf, HVl, HBr⟩ := hrel
          go_wp2_with (at_next; refine wpList_next_ranges _ rfl _ rfl 9 keyed_str (plainElem Tryz.prog 4) Value.string Value.bool inv_str (fun v y h => (inv_bool v y h).imp fun c h => h.1) gQ X.heap.size 2 D left cnt rfl HRG.out ?_ ?_; intro hc0 hl0; rotate_left; intro s c kl y w2 cnt2 hkl hlk hR hat hrg2 hlt hgr hsz hen; have hy := may_elem hR; rw [hy] at hat; have HAT := Lib.hid hat; have HLK := Lib.hid hlk; have HRG2 := Lib.hid hrg2; have HLT := Lib.hid hlt; have HB2 := Lib.hid (grown_below HBr.out hgr (Nat.le_refl _) (fun q hq => by injection hq with hq; have := HBq.out.size; omega)); clear hkl hlk hR hat hrg2 hlt hgr hsz hy; cases c)
          · have HR12 := Lib.hid (may_none H3.out HP4.out HP5.out (HLf.out _ HLK.out) HAT.out)
            go_ret
            exact ⟨by rw [HR12.out]; rfl, HB2.out⟩
          · have HLf2 := Lib.hid (may_left HLf.out (kl := kl))
            have HVl2 := Lib.hid (may_next HVl.out HAT.out)
            go_roundw
            case rel => exact ⟨_, _, HRG2, HLf2, HVl2, HB2⟩
            case measure => rw [HRG2.out.left_eq, HRG.out.left_eq]; exact HLT.out
          · have HR12 := Lib.hid (may_all HP4.out HP5.out HVl.out hl0)
            clear hc0 hl0
            go_ret
            exact ⟨by rw [HR12.out]; rfl, HBr.out⟩
      refine AllReadyH.cons (o := ⟨some 40, _, _, _, _, _⟩) rfl (fun K hK => ?_) ?_
      · skip
        go_simp
        refine Calls.mono (CI.out _ hHeld.2.2) ?_
        rintro e x3 ⟨rfl, hb1⟩
        replace GQ := GQ.new hb1
        refine hK.out _ _ ⟨hHeld.1.new hb1, hHeld.2.1.new hb1, below_trans hHeld.2.2 hb1 (Nat.le_refl _)⟩ (fun hHeld' => ?_)
        clear hK K hHeld hb1
        have hHeld := hHeld'
        clear hHeld'
        try simp only [Act.put, List.setIfInBounds_toArray, List.set_cons_zero, List.set_cons_succ]
        refine wpAnyH_ready (rs := [5, 20]) (by kernel_rfl) (by simp) ?_
        refine AllReadyH.cons (o := ⟨none, _, _, _, _, _⟩) rfl (fun K hK => ?_) ?_
        · skip
          obtain ⟨xq, hrun, hGQ, hgr⟩ := GQ.put1 (by unfold maxLen; omega) b1
          go_simp
          refine hK.out _ _ ⟨hHeld.1.grown hgr (by omega), hHeld.2.1.grown hgr (by omega), grown_below hHeld.2.2 hgr (Nat.le_refl _) (fun q hq => by injection hq with hq; omega)⟩ (fun hHeld' => ?_)
          clear hK K hHeld hrun hgr
          replace GQ := hGQ
          clear hGQ
          have hHeld := hHeld'
          clear hHeld'
          generalize xq = x4 at hHeld GQ ⊢
          try simp only [Act.put, List.setIfInBounds_toArray, List.set_cons_zero, List.set_cons_succ]
          refine wpAnyH_ready (rs := [20]) (by kernel_rfl) (by simp) ?_
          refine AllReadyH.cons (o := ⟨some 41, _, _, _, _, _⟩) rfl (fun K hK => ?_) AllReadyH.nil
          go_simp
          refine Calls.mono (CM.out _ hHeld.2.2) ?_
          rintro e x5 ⟨rfl, hb1⟩
          replace GQ := GQ.new hb1
          refine hK.out _ _ ⟨hHeld.1.new hb1, hHeld.2.1.new hb1, below_trans hHeld.2.2 hb1 (Nat.le_refl _)⟩ (fun hHeld' => ?_)
          clear hK K hHeld hb1
          have hHeld := hHeld'
          clear hHeld'
          try simp only [Act.put, List.setIfInBounds_toArray, List.set_cons_zero, List.set_cons_succ]
          refine wpAnyH_ready (rs := [21]) (by kernel_rfl) (by simp) ?_
          refine AllReadyH.cons (o := ⟨none, _, _, _, _, _⟩) rfl (fun K hK => ?_) AllReadyH.nil
          obtain ⟨xq, hrun, hGQ, hgr⟩ := GQ.put2 (by unfold maxLen; omega) b2
          go_simp
          refine hK.out _ _ ⟨hHeld.1.grown hgr (by omega), hHeld.2.1.grown hgr (by omega), grown_below hHeld.2.2 hgr (Nat.le_refl _) (fun q hq => by injection hq with hq; omega)⟩ (fun hHeld' => ?_)
          clear hK K hHeld hrun hgr
          replace GQ := hGQ
          clear hGQ
          have hHeld := hHeld'
          clear hHeld'
          generalize xq = x6 at hHeld GQ ⊢
          try simp only [Act.put, List.setIfInBounds_toArray, List.set_cons_zero, List.set_cons_succ]
          refine wpAnyH_take (i := 22) (oi := ⟨some 42, _, _, _, _, _⟩) (v := ?_) rfl (by kernel_rfl) (by kernel_rfl) (by kernel_rfl) (fun _ _ _ h => h) (Or.inl ⟨by kernel_rfl, ?_⟩) hHeld ?_
          rotate_left
          focus (intro W hS; have c0_0 := (hS.1).at_ (j := 0) rfl; have c0_1 := (hS.1).at_ (j := 1) rfl; have c0_2 := (hS.1).at_ (j := 2) rfl; have c0_3 := (hS.1).at_ (j := 3) rfl; have c0_4 := (hS.1).at_ (j := 4) rfl; have c0_5 := (hS.1).at_ (j := 5) rfl; have c0_6 := (hS.1).at_ (j := 6) rfl; have c0_7 := (hS.1).at_ (j := 7) rfl; have c1_0 := (hS.2.1).at_ (j := 0) rfl; have c1_1 := (hS.2.1).at_ (j := 1) rfl; have c1_2 := (hS.2.1).at_ (j := 2) rfl; have c1_3 := (hS.2.1).at_ (j := 3) rfl; have c1_4 := (hS.2.1).at_ (j := 4) rfl; have c1_5 := (hS.2.1).at_ (j := 5) rfl; clear hS; first | (go_simp; done) | (go_simp; with_reducible rfl))
          try simp only [Act.put, List.setIfInBounds_toArray, List.set_cons_zero, List.set_cons_succ]
          refine wpAnyH_take (i := 23) (oi := ⟨some 10, _, _, _, _, _⟩) (v := ?_) rfl (by kernel_rfl) (by kernel_rfl) (by kernel_rfl) (fun _ _ _ h => h) (Or.inl ⟨by kernel_rfl, ?_⟩) hHeld ?_
          rotate_left
          focus (intro W hS; have c0_0 := (hS.1).at_ (j := 0) rfl; have c0_1 := (hS.1).at_ (j := 1) rfl; have c0_2 := (hS.1).at_ (j := 2) rfl; have c0_3 := (hS.1).at_ (j := 3) rfl; have c0_4 := (hS.1).at_ (j := 4) rfl; have c0_5 := (hS.1).at_ (j := 5) rfl; have c0_6 := (hS.1).at_ (j := 6) rfl; have c0_7 := (hS.1).at_ (j := 7) rfl; have c1_0 := (hS.2.1).at_ (j := 0) rfl; have c1_1 := (hS.2.1).at_ (j := 1) rfl; have c1_2 := (hS.2.1).at_ (j := 2) rfl; have c1_3 := (hS.2.1).at_ (j := 3) rfl; have c1_4 := (hS.2.1).at_ (j := 4) rfl; have c1_5 := (hS.2.1).at_ (j := 5) rfl; clear hS; first | (go_simp; done) | (go_simp; with_reducible rfl))
          try simp only [Act.put, List.setIfInBounds_toArray, List.set_cons_zero, List.set_cons_succ]
          refine wpAnyH_done (by kernel_rfl) ?_ _
          rename World => X
          have HBq := Lib.hid hHeld.2.2
          obtain ⟨D, h1, h2, h3, h4, h5⟩ := GQ
          have HO := Lib.hid h1
          have H3 := Lib.hid h3
          have HP4 := Lib.hid (h4 b1 rfl)
          have HP5 := Lib.hid (h5 b2 rfl)
          clear hHeld h1 h2 h3 h4 h5
          go_wp2_with (at_range; refine wpList_range_own _ rfl _ _ rfl _ _ keyed_str under_q _ gQ 2 D rfl HO.out ?_; intro w0 hrg0 hg0 hs0)
          go_frame
          have HRG0 := Lib.hid hrg0
          have HB0 := Lib.hid (grown_below HBq.out hg0 (Nat.le_refl _) (fun k h => by cases h))
          clear hrg0 hg0 hs0
          go_loopw [12] (fun v wr => ∃ (left : Lit → Bool) (cnt : Nat), Hid (wr.ranges Tryz.prog 9 (plainElem Tryz.prog 4) gQ X.heap.size 2 D left cnt) ∧ Hid (∀ kl, left kl = true → Maps.has D kl = true) ∧ Hid (∀ kl, Maps.has D kl = true → left kl = false → ∀ zd, D.atKey kl zd = .lit (.bool true)) ∧ Hid (Below w.heap.size w wr)) (fun _ wr => wr.rangeLeft gQ X.heap.size)
          case atStart => exact ⟨_, _, HRG0, Lib.hid (fun kl h => h), Lib.hid (fun kl h h2 => by rw [h] at h2; cases h2), HB0⟩
          case round =>
            obtain ⟨left, cnt, HRG, HLf, HVl, HBr⟩ := hrel
            go_wp2_with (at_next; refine wpList_next_ranges _ rfl _ rfl 9 keyed_str (plainElem Tryz.prog 4) Value.string Value.bool inv_str (fun v y h => (inv_bool v y h).imp fun c h => h.1) gQ X.heap.size 2 D left cnt rfl HRG.out ?_ ?_; intro hc0 hl0; rotate_left; intro s c kl y w2 cnt2 hkl hlk hR hat hrg2 hlt hgr hsz hen; have hy := may_elem hR; rw [hy] at hat; have HAT := Lib.hid hat; have HLK := Lib.hid hlk; have HRG2 := Lib.hid hrg2; have HLT := Lib.hid hlt; have HB2 := Lib.hid (grown_below HBr.out hgr (Nat.le_refl _) (fun q hq => by injection hq with hq; have := HBq.out.size; omega)); clear hkl hlk hR hat hrg2 hlt hgr hsz hy; cases c)
            · have HR12 := Lib.hid (may_none H3.out HP4.out HP5.out (HLf.out _ HLK.out) HAT.out)
              go_ret
              exact ⟨by rw [HR12.out]; rfl, HB2.out⟩
            · have HLf2 := Lib.hid (may_left HLf.out (kl := kl))
              have HVl2 := Lib.hid (may_next HVl.out HAT.out)
              go_roundw
              case rel => exact ⟨_, _, HRG2, HLf2, HVl2, HB2⟩
              case measure => rw [HRG2.out.left_eq, HRG.out.left_eq]; exact HLT.out
            · have HR12 := Lib.hid (may_all HP4.out HP5.out HVl.out hl0)
              clear hc0 hl0
              go_ret
              exact ⟨by rw [HR12.out]; rfl, HBr.out⟩
        refine AllReadyH.cons (o := ⟨some 41, _, _, _, _, _⟩) rfl (fun K hK => ?_) ?_
        · skip
          go_simp
          refine Calls.mono (CM.out _ hHeld.2.2) ?_
          rintro e x4 ⟨rfl, hb1⟩
          replace GQ := GQ.new hb1
          refine hK.out _ _ ⟨hHeld.1.new hb1, hHeld.2.1.new hb1, below_trans hHeld.2.2 hb1 (Nat.le_refl _)⟩ (fun hHeld' => ?_)
          clear hK K hHeld hb1
          have hHeld := hHeld'
          clear hHeld'
          try simp only [Act.put, List.setIfInBounds_toArray, List.set_cons_zero, List.set_cons_succ]
          refine wpAnyH_ready (rs := [5, 21]) (by kernel_rfl) (by simp) ?_
          refine AllReadyH.cons (o := ⟨none, _, _, _, _, _⟩) rfl (fun K hK => ?_) ?_
          · skip
            obtain ⟨xq, hrun, hGQ, hgr⟩ := GQ.put1 (by unfold maxLen; omega) b1
            go_simp
            refine hK.out _ _ ⟨hHeld.1.grown hgr (by omega), hHeld.2.1.grown hgr (by omega), grown_below hHeld.2.2 hgr (Nat.le_refl _) (fun q hq => by injection hq with hq; omega)⟩ (fun hHeld' => ?_)
            clear hK K hHeld hrun hgr
            replace GQ := hGQ
            clear hGQ
            have hHeld := hHeld'
            clear hHeld'
            generalize xq = x5 at hHeld GQ ⊢
            try simp only [Act.put, List.setIfInBounds_toArray, List.set_cons_zero, List.set_cons_succ]
            refine wpAnyH_ready (rs := [21]) (by kernel_rfl) (by simp) ?_
            refine AllReadyH.cons (o := ⟨none, _, _, _, _, _⟩) rfl (fun K hK => ?_) AllReadyH.nil
            obtain ⟨xq, hrun, hGQ, hgr⟩ := GQ.put2 (by unfold maxLen; omega) b2
            go_simp
            refine hK.out _ _ ⟨hHeld.1.grown hgr (by omega), hHeld.2.1.grown hgr (by omega), grown_below hHeld.2.2 hgr (Nat.le_refl _) (fun q hq => by injection hq with hq; omega)⟩ (fun hHeld' => ?_)
            clear hK K hHeld hrun hgr
            replace GQ := hGQ
            clear hGQ
            have hHeld := hHeld'
            clear hHeld'
            generalize xq = x6 at hHeld GQ ⊢
            try simp only [Act.put, List.setIfInBounds_toArray, List.set_cons_zero, List.set_cons_succ]
            refine wpAnyH_take (i := 22) (oi := ⟨some 42, _, _, _, _, _⟩) (v := ?_) rfl (by kernel_rfl) (by kernel_rfl) (by kernel_rfl) (fun _ _ _ h => h) (Or.inl ⟨by kernel_rfl, ?_⟩) hHeld ?_
            rotate_left
            focus (intro W hS; have c0_0 := (hS.1).at_ (j := 0) rfl; have c0_1 := (hS.1).at_ (j := 1) rfl; have c0_2 := (hS.1).at_ (j := 2) rfl; have c0_3 := (hS.1).at_ (j := 3) rfl; have c0_4 := (hS.1).at_ (j := 4) rfl; have c0_5 := (hS.1).at_ (j := 5) rfl; have c0_6 := (hS.1).at_ (j := 6) rfl; have c0_7 := (hS.1).at_ (j := 7) rfl; have c1_0 := (hS.2.1).at_ (j := 0) rfl; have c1_1 := (hS.2.1).at_ (j := 1) rfl; have c1_2 := (hS.2.1).at_ (j := 2) rfl; have c1_3 := (hS.2.1).at_ (j := 3) rfl; have c1_4 := (hS.2.1).at_ (j := 4) rfl; have c1_5 := (hS.2.1).at_ (j := 5) rfl; clear hS; first | (go_simp; done) | (go_simp; with_reducible rfl))
            try simp only [Act.put, List.setIfInBounds_toArray, List.set_cons_zero, List.set_cons_succ]
            refine wpAnyH_take (i := 23) (oi := ⟨some 10, _, _, _, _, _⟩) (v := ?_) rfl (by kernel_rfl) (by kernel_rfl) (by kernel_rfl) (fun _ _ _ h => h) (Or.inl ⟨by kernel_rfl, ?_⟩) hHeld ?_
            rotate_left
            focus (intro W hS; have c0_0 := (hS.1).at_ (j := 0) rfl; have c0_1 := (hS.1).at_ (j := 1) rfl; have c0_2 := (hS.1).at_ (j := 2) rfl; have c0_3 := (hS.1).at_ (j := 3) rfl; have c0_4 := (hS.1).at_ (j := 4) rfl; have c0_5 := (hS.1).at_ (j := 5) rfl; have c0_6 := (hS.1).at_ (j := 6) rfl; have c0_7 := (hS.1).at_ (j := 7) rfl; have c1_0 := (hS.2.1).at_ (j := 0) rfl; have c1_1 := (hS.2.1).at_ (j := 1) rfl; have c1_2 := (hS.2.1).at_ (j := 2) rfl; have c1_3 := (hS.2.1).at_ (j := 3) rfl; have c1_4 := (hS.2.1).at_ (j := 4) rfl; have c1_5 := (hS.2.1).at_ (j := 5) rfl; clear hS; first | (go_simp; done) | (go_simp; with_reducible rfl))
            try simp only [Act.put, List.setIfInBounds_toArray, List.set_cons_zero, List.set_cons_succ]
            refine wpAnyH_done (by kernel_rfl) ?_ _
            rename World => X
            have HBq := Lib.hid hHeld.2.2
            obtain ⟨D, h1, h2, h3, h4, h5⟩ := GQ
            have HO := Lib.hid h1
            have H3 := Lib.hid h3
            have HP4 := Lib.hid (h4 b1 rfl)
            have HP5 := Lib.hid (h5 b2 rfl)
            clear hHeld h1 h2 h3 h4 h5
            go_wp2_with (at_range; refine wpList_range_own _ rfl _ _ rfl _ _ keyed_str under_q _ gQ 2 D rfl HO.out ?_; intro w0 hrg0 hg0 hs0)
            go_frame
            have HRG0 := Lib.hid hrg0
            have HB0 := Lib.hid (grown_below HBq.out hg0 (Nat.le_refl _) (fun k h => by cases h))
            clear hrg0 hg0 hs0
            go_loopw [12] (fun v wr => ∃ (left : Lit → Bool) (cnt : Nat), Hid (wr.ranges Tryz.prog 9 (plainElem Tryz.prog 4) gQ X.heap.size 2 D left cnt) ∧ Hid (∀ kl, left kl = true → Maps.has D kl = true) ∧ Hid (∀ kl, Maps.has D kl = true → left kl = false → ∀ zd, D.atKey kl zd = .lit (.bool true)) ∧ Hid (Below w.heap.size w wr)) (fun _ wr => wr.rangeLeft gQ X.heap.size)
            case atStart => exact ⟨_, _, HRG0, Lib.hid (fun kl h => h), Lib.hid (fun kl h h2 => by rw [h] at h2; cases h2), HB0⟩
            case round =>
              obtain ⟨left, cnt, HRG, HLf, HVl, HBr⟩ := hrel
              go_wp2_with (at_next; refine wpList_next_ranges _ rfl _ rfl 9 keyed_str (plainElem Tryz.prog 4) Value.string Value.bool inv_str (fun v y h => (inv_bool v y h).imp fun c h => h.1) gQ X.heap.size 2 D left cnt rfl HRG.out ?_ ?_; intro hc0 hl0; rotate_left; intro s c kl y w2 cnt2 hkl hlk hR hat hrg2 hlt hgr hsz hen; have hy := may_elem hR; rw [hy] at hat; have HAT := Lib.hid hat; have HLK := Lib.hid hlk; have HRG2 := Lib.hid hrg2; have HLT := Lib.hid hlt; have HB2 := Lib.hid (grown_below HBr.out hgr (Nat.le_refl _) (fun q hq => by injection hq with hq; have := HBq.out.size; omega)); clear hkl hlk hR hat hrg2 hlt hgr hsz hy; cases c)
              · have HR12 := Lib.hid (may_none H3.out HP4.out HP5.out (HLf.out _ HLK.out) HAT.out)
                go_ret
                exact ⟨by rw [HR12.out]; rfl, HB2.out⟩
              · have HLf2 := Lib.hid (may_left HLf.out (kl := kl))
                have HVl2 := Lib.hid (may_next HVl.out HAT.out)
                go_roundw
                case rel => exact ⟨_, _, HRG2, HLf2, HVl2, HB2⟩
                case measure => rw [HRG2.out.left_eq, HRG.out.left_eq]; exact HLT.out
              · have HR12 := Lib.hid (may_all HP4.out HP5.out HVl.out hl0)
                clear hc0 hl0
                go_ret
                exact ⟨by rw [HR12.out]; rfl, HBr.out⟩
          refine AllReadyH.cons (o := ⟨none, _, _, _, _, _⟩) rfl (fun K hK => ?_) ?_
          · skip
            obtain ⟨xq, hrun, hGQ, hgr⟩ := GQ.put2 (by unfold maxLen; omega) b2
            go_simp
            refine hK.out _ _ ⟨hHeld.1.grown hgr (by omega), hHeld.2.1.grown hgr (by omega), grown_below hHeld.2.2 hgr (Nat.le_refl _) (fun q hq => by injection hq with hq; omega)⟩ (fun hHeld' => ?_)
            clear hK K hHeld hrun hgr
            replace GQ := hGQ
            clear hGQ
            have hHeld := hHeld'
            clear hHeld'
            generalize xq = x5 at hHeld GQ ⊢
            try simp only [Act.put, List.setIfInBounds_toArray, List.set_cons_zero, List.set_cons_succ]
            refine wpAnyH_ready (rs := [5]) (by kernel_rfl) (by simp) ?_
            refine AllReadyH.cons (o := ⟨none, _, _, _, _, _⟩) rfl (fun K hK => ?_) AllReadyH.nil
            obtain ⟨xq, hrun, hGQ, hgr⟩ := GQ.put1 (by unfold maxLen; omega) b1
            go_simp
            refine hK.out _ _ ⟨hHeld.1.grown hgr (by omega), hHeld.2.1.grown hgr (by omega), grown_below hHeld.2.2 hgr (Nat.le_refl _) (fun q hq => by injection hq with hq; omega)⟩ (fun hHeld' => ?_)
            clear hK K hHeld hrun hgr
            replace GQ := hGQ
            clear hGQ
            have hHeld := hHeld'
            clear hHeld'
            generalize xq = x6 at hHeld GQ ⊢
            try simp only [Act.put, List.setIfInBounds_toArray, List.set_cons_zero, List.set_cons_succ]
            refine wpAnyH_take (i := 22) (oi := ⟨some 42, _, _, _, _, _⟩) (v := ?_) rfl (by kernel_rfl) (by kernel_rfl) (by kernel_rfl) (fun _ _ _ h => h) (Or.inl ⟨by kernel_rfl, ?_⟩) hHeld ?_
            rotate_left
            focus (intro W hS; have c0_0 := (hS.1).at_ (j := 0) rfl; have c0_1 := (hS.1).at_ (j := 1) rfl; have c0_2 := (hS.1).at_ (j := 2) rfl; have c0_3 := (hS.1).at_ (j := 3) rfl; have c0_4 := (hS.1).at_ (j := 4) rfl; have c0_5 := (hS.1).at_ (j := 5) rfl; have c0_6 := (hS.1).at_ (j := 6) rfl; have c0_7 := (hS.1).at_ (j := 7) rfl; have c1_0 := (hS.2.1).at_ (j := 0) rfl; have c1_1 := (hS.2.1).at_ (j := 1) rfl; have c1_2 := (hS.2.1).at_ (j := 2) rfl; have c1_3 := (hS.2.1).at_ (j := 3) rfl; have c1_4 := (hS.2.1).at_ (j := 4) rfl; have c1_5 := (hS.2.1).at_ (j := 5) rfl; clear hS; first | (go_simp; done) | (go_simp; with_reducible rfl))
            try simp only [Act.put, List.setIfInBounds_toArray, List.set_cons_zero, List.set_cons_succ]
            refine wpAnyH_take (i := 23) (oi := ⟨some 10, _, _, _, _, _⟩) (v := ?_) rfl (by kernel_rfl) (by kernel_rfl) (by kernel_rfl) (fun _ _ _ h => h) (Or.inl ⟨by kernel_rfl, ?_⟩) hHeld ?_
            rotate_left
            focus (intro W hS; have c0_0 := (hS.1).at_ (j := 0) rfl; have c0_1 := (hS.1).at_ (j := 1) rfl; have c0_2 := (hS.1).at_ (j := 2) rfl; have c0_3 := (hS.1).at_ (j := 3) rfl; have c0_4 := (hS.1).at_ (j := 4) rfl; have c0_5 := (hS.1).at_ (j := 5) rfl; have c0_6 := (hS.1).at_ (j := 6) rfl; have c0_7 := (hS.1).at_ (j := 7) rfl; have c1_0 := (hS.2.1).at_ (j := 0) rfl; have c1_1 := (hS.2.1).at_ (j := 1) rfl; have c1_2 := (hS.2.1).at_ (j := 2) rfl; have c1_3 := (hS.2.1).at_ (j := 3) rfl; have c1_4 := (hS.2.1).at_ (j := 4) rfl; have c1_5 := (hS.2.1).at_ (j := 5) rfl; clear hS; first | (go_simp; done) | (go_simp; with_reducible rfl))
            try simp only [Act.put, List.setIfInBounds_toArray, List.set_cons_zero, List.set_cons_succ]
            refine wpAnyH_done (by kernel_rfl) ?_ _
            rename World => X
            have HBq := Lib.hid hHeld.2.2
            obtain ⟨D, h1, h2, h3, h4, h5⟩ := GQ
            have HO := Lib.hid h1
            have H3 := Lib.hid h3
            have HP4 := Lib.hid (h4 b1 rfl)
            have HP5 := Lib.hid (h5 b2 rfl)
            clear hHeld h1 h2 h3 h4 h5
            go_wp2_with (at_range; refine wpList_range_own _ rfl _ _ rfl _ _ keyed_str under_q _ gQ 2 D rfl HO.out ?_; intro w0 hrg0 hg0 hs0)
            go_frame
            have HRG0 := Lib.hid hrg0
            have HB0 := Lib.hid (grown_below HBq.out hg0 (Nat.le_refl _) (fun k h => by cases h))
            clear hrg0 hg0 hs0
            go_loopw [12] (fun v wr => ∃ (left : Lit → Bool) (cnt : Nat), Hid (wr.ranges Tryz.prog 9 (plainElem Tryz.prog 4) gQ X.heap.size 2 D left cnt) ∧ Hid (∀ kl, left kl = true → Maps.has D kl = true) ∧ Hid (∀ kl, Maps.has D kl = true → left kl = false → ∀ zd, D.atKey kl zd = .lit (.bool true)) ∧ Hid (Below w.heap.size w wr)) (fun _ wr => wr.rangeLeft gQ X.heap.size)
            case atStart => exact ⟨_, _, HRG0, Lib.hid (fun kl h => h), Lib.hid (fun kl h h2 => by rw [h] at h2; cases h2), HB0⟩
            case round =>
              obtain ⟨left, cnt, HRG, HLf, HVl, HBr⟩ := hrel
              go_wp2_with (at_next; refine wpList_next_ranges _ rfl _ rfl 9 keyed_str (plainElem Tryz.prog 4) Value.string Value.bool inv_str (fun v y h => (inv_bool v y h).imp fun c h => h.1) gQ X.heap.size 2 D left cnt rfl HRG.out ?_ ?_; intro hc0 hl0; rotate_left; intro s c kl y w2 cnt2 hkl hlk hR hat hrg2 hlt hgr hsz hen; have hy := may_elem hR; rw [hy] at hat; have HAT := Lib.hid hat; have HLK := Lib.hid hlk; have HRG2 := Lib.hid hrg2; have HLT := Lib.hid hlt; have HB2 := Lib.hid (grown_below HBr.out hgr (Nat.le_refl _) (fun q hq => by injection hq with hq; have := HBq.out.size; omega)); clear hkl hlk hR hat hrg2 hlt hgr hsz hy; cases c)
              · have HR12 := Lib.hid (may_none H3.out HP4.out HP5.out (HLf.out _ HLK.out) HAT.out)
                go_ret
                exact ⟨by rw [HR12.out]; rfl, HB2.out⟩
              · have HLf2 := Lib.hid (may_left HLf.out (kl := kl))
                have HVl2 := Lib.hid (may_next HVl.out HAT.out)
                go_roundw
                case rel => exact ⟨_, _, HRG2, HLf2, HVl2, HB2⟩
                case measure => rw [HRG2.out.left_eq, HRG.out.left_eq]; exact HLT.out
              · have HR12 := Lib.hid (may_all HP4.out HP5.out HVl.out hl0)
                clear hc0 hl0
                go_ret
                exact ⟨by rw [HR12.out]; rfl, HBr.out⟩
          exact AllReadyH.nil
        exact AllReadyH.nil
      exact AllReadyH.nil
    refine AllReadyH.cons (o := ⟨some 25, _, _, _, _, _⟩) rfl (fun K hK => ?_) ?_
    · skip
      go_simp
      refine Calls.mono (CP.out _ hHeld.2.2) ?_
      rintro e x1 ⟨rfl, hb1⟩
      refine hK.out _ _ ⟨hHeld.1.new hb1, hHeld.2.1.new hb1, below_trans hHeld.2.2 hb1 (Nat.le_refl _)⟩ (fun hHeld' => ?_)
      clear hK K hHeld hb1
      have hHeld := hHeld'
      clear hHeld'
      try simp only [Act.put, List.setIfInBounds_toArray, List.set_cons_zero, List.set_cons_succ]
      refine wpAnyH_take (i := 4) (oi := ⟨some 26, _, _, _, _, _⟩) (v := ?_) rfl (by kernel_rfl) (by kernel_rfl) (by kernel_rfl) (fun _ _ _ h => h) (Or.inl ⟨by kernel_rfl, ?_⟩) hHeld ?_
      rotate_left
      focus (intro W hS; have c0_0 := (hS.1).at_ (j := 0) rfl; have c0_1 := (hS.1).at_ (j := 1) rfl; have c0_2 := (hS.1).at_ (j := 2) rfl; have c0_3 := (hS.1).at_ (j := 3) rfl; have c0_4 := (hS.1).at_ (j := 4) rfl; have c0_5 := (hS.1).at_ (j := 5) rfl; have c0_6 := (hS.1).at_ (j := 6) rfl; have c0_7 := (hS.1).at_ (j := 7) rfl; have c1_0 := (hS.2.1).at_ (j := 0) rfl; have c1_1 := (hS.2.1).at_ (j := 1) rfl; have c1_2 := (hS.2.1).at_ (j := 2) rfl; have c1_3 := (hS.2.1).at_ (j := 3) rfl; have c1_4 := (hS.2.1).at_ (j := 4) rfl; have c1_5 := (hS.2.1).at_ (j := 5) rfl; clear hS; first | (go_simp; done) | (go_simp; with_reducible rfl))
      try simp only [Act.put, List.setIfInBounds_toArray, List.set_cons_zero, List.set_cons_succ]
      refine wpAnyH_ready (rs := [0, 19]) (by kernel_rfl) (by simp) ?_
      refine AllReadyH.cons (o := ⟨some 22, _, _, _, _, _⟩) rfl (fun K hK => ?_) ?_
      · skip
        go_simp
        have GQ := mapQ_made x1
        have hb1 := (Below.refl (x1).heap.size x1).alloc (Nat.le_refl _) (.map #[] 0)
        have M0Q : w.heap.size < (x1).heap.size := hHeld.1.lt
        have M1Q : w1.heap.size < (x1).heap.size := hHeld.2.1.lt
        generalize (x1).alloc (.map #[] 0) = xm at hb1 GQ ⊢
        generalize hg : (x1).heap.size = gQ at GQ M0Q M1Q ⊢
        have hb2 : Below (x1).heap.size x1 xm := by rw [hg]; rw [hg] at hb1; exact hb1
        clear hg hb1
        refine hK.out _ _ ⟨hHeld.1.new hb2, hHeld.2.1.new hb2, below_trans hHeld.2.2 hb2 (Nat.le_refl _)⟩ (fun hHeld' => ?_)
        clear hK K hHeld hb2
        have hHeld := hHeld'
        clear hHeld'
        generalize xm = x2 at hHeld GQ ⊢
        try simp only [Act.put, List.setIfInBounds_toArray, List.set_cons_zero, List.set_cons_succ]
        refine wpAnyH_ready (rs := [5, 19]) (by kernel_rfl) (by simp) ?_
        refine AllReadyH.cons (o := ⟨none, _, _, _, _, _⟩) rfl (fun K hK => ?_) ?_
        · skip
          obtain ⟨xq, hrun, hGQ, hgr⟩ := GQ.put1 (by unfold maxLen; omega) b1
          go_simp
          refine hK.out _ _ ⟨hHeld.1.grown hgr (by omega), hHeld.2.1.grown hgr (by omega), grown_below hHeld.2.2 hgr (Nat.le_refl _) (fun q hq => by injection hq with hq; omega)⟩ (fun hHeld' => ?_)
          clear hK K hHeld hrun hgr
          replace GQ := hGQ
          clear hGQ
          have hHeld := hHeld'
          clear hHeld'
          generalize xq = x3 at hHeld GQ ⊢
          try simp only [Act.put, List.setIfInBounds_toArray, List.set_cons_zero, List.set_cons_succ]
          refine wpAnyH_ready (rs := [19]) (by kernel_rfl) (by simp) ?_
          refine AllReadyH.cons (o := ⟨some 40, _, _, _, _, _⟩) rfl (fun K hK => ?_) AllReadyH.nil
          go_simp
          refine Calls.mono (CI.out _ hHeld.2.2) ?_
          rintro e x4 ⟨rfl, hb1⟩
          replace GQ := GQ.new hb1
          refine hK.out _ _ ⟨hHeld.1.new hb1, hHeld.2.1.new hb1, below_trans hHeld.2.2 hb1 (Nat.le_refl _)⟩ (fun hHeld' => ?_)
          clear hK K hHeld hb1
          have hHeld := hHeld'
          clear hHeld'
          try simp only [Act.put, List.setIfInBounds_toArray, List.set_cons_zero, List.set_cons_succ]
          refine wpAnyH_ready (rs := [20]) (by kernel_rfl) (by simp) ?_
          refine AllReadyH.cons (o := ⟨some 41, _, _, _, _, _⟩) rfl (fun K hK => ?_) AllReadyH.nil
          go_simp
          refine Calls.mono (CM.out _ hHeld.2.2) ?_
          rintro e x5 ⟨rfl, hb1⟩
          replace GQ := GQ.new hb1
          refine hK.out _ _ ⟨hHeld.1.new hb1, hHeld.2.1.new hb1, below_trans hHeld.2.2 hb1 (Nat.le_refl _)⟩ (fun hHeld' => ?_)
          clear hK K hHeld hb1
          have hHeld := hHeld'
          clear hHeld'
          try simp only [Act.put, List.setIfInBounds_toArray, List.set_cons_zero, List.set_cons_succ]
          refine wpAnyH_ready (rs := [21]) (by kernel_rfl) (by simp) ?_
          refine AllReadyH.cons (o := ⟨none, _, _, _, _, _⟩) rfl (fun K hK => ?_) AllReadyH.nil
          obtain ⟨xq, hrun, hGQ, hgr⟩ := GQ.put2 (by unfold maxLen; omega) b2
          go_simp
          refine hK.out _ _ ⟨hHeld.1.grown hgr (by omega), hHeld.2.1.grown hgr (by omega), grown_below hHeld.2.2 hgr (Nat.le_refl _) (fun q hq => by injection hq with hq; omega)⟩ (fun hHeld' => ?_)
          clear hK K hHeld hrun hgr
          replace GQ := hGQ
          clear hGQ
          have hHeld := hHeld'
          clear hHeld'
          generalize xq = x6 at hHeld GQ ⊢
          try simp only [Act.put, List.setIfInBounds_toArray, List.set_cons_zero, List.set_cons_succ]
          refine wpAnyH_take (i := 22) (oi := ⟨some 42, _, _, _, _, _⟩) (v := ?_) rfl (by kernel_rfl) (by kernel_rfl) (by kernel_rfl) (fun _ _ _ h => h) (Or.inl ⟨by kernel_rfl, ?_⟩) hHeld ?_
          rotate_left
          focus (intro W hS; have c0_0 := (hS.1).at_ (j := 0) rfl; have c0_1 := (hS.1).at_ (j := 1) rfl; have c0_2 := (hS.1).at_ (j := 2) rfl; have c0_3 := (hS.1).at_ (j := 3) rfl; have c0_4 := (hS.1).at_ (j := 4) rfl; have c0_5 := (hS.1).at_ (j := 5) rfl; have c0_6 := (hS.1).at_ (j := 6) rfl; have c0_7 := (hS.1).at_ (j := 7) rfl; have c1_0 := (hS.2.1).at_ (j := 0) rfl; have c1_1 := (hS.2.1).at_ (j := 1) rfl; have c1_2 := (hS.2.1).at_ (j := 2) rfl; have c1_3 := (hS.2.1).at_ (j := 3) rfl; have c1_4 := (hS.2.1).at_ (j := 4) rfl; have c1_5 := (hS.2.1).at_ (j := 5) rfl; clear hS; first | (go_simp; done) | (go_simp; with_reducible rfl))
          try simp only [Act.put, List.setIfInBounds_toArray, List.set_cons_zero, List.set_cons_succ]
          refine wpAnyH_take (i := 23) (oi := ⟨some 10, _, _, _, _, _⟩) (v := ?_) rfl (by kernel_rfl) (by kernel_rfl) (by kernel_rfl) (fun _ _ _ h => h) (Or.inl ⟨by kernel_rfl, ?_⟩) hHeld ?_
          rotate_left
          focus (intro W hS; have c0_0 := (hS.1).at_ (j := 0) rfl; have c0_1 := (hS.1).at_ (j := 1) rfl; have c0_2 := (hS.1).at_ (j := 2) rfl; have c0_3 := (hS.1).at_ (j := 3) rfl; have c0_4 := (hS.1).at_ (j := 4) rfl; have c0_5 := (hS.1).at_ (j := 5) rfl; have c0_6 := (hS.1).at_ (j := 6) rfl; have c0_7 := (hS.1).at_ (j := 7) rfl; have c1_0 := (hS.2.1).at_ (j := 0) rfl; have c1_1 := (hS.2.1).at_ (j := 1) rfl; have c1_2 := (hS.2.1).at_ (j := 2) rfl; have c1_3 := (hS.2.1).at_ (j := 3) rfl; have c1_4 := (hS.2.1).at_ (j := 4) rfl; have c1_5 := (hS.2.1).at_ (j := 5) rfl; clear hS; first | (go_simp; done) | (go_simp; with_reducible rfl))
          try simp only [Act.put, List.setIfInBounds_toArray, List.set_cons_zero, List.set_cons_succ]
          refine wpAnyH_done (by kernel_rfl) ?_ _
          rename World => X
          have HBq := Lib.hid hHeld.2.2
          obtain ⟨D, h1, h2, h3, h4, h5⟩ := GQ
          have HO := Lib.hid h1
          have H3 := Lib.hid h3
          have HP4 := Lib.hid (h4 b1 rfl)
          have HP5 := Lib.hid (h5 b2 rfl)
          clear hHeld h1 h2 h3 h4 h5
          go_wp2_with (at_range; refine wpList_range_own _ rfl _ _ rfl _ _ keyed_str under_q _ gQ 2 D rfl HO.out ?_; intro w0 hrg0 hg0 hs0)
          go_frame
          have HRG0 := Lib.hid hrg0
          have HB0 := Lib.hid (grown_below HBq.out hg0 (Nat.le_refl _) (fun k h => by cases h))
          clear hrg0 hg0 hs0
          go_loopw [12] (fun v wr => ∃ (left : Lit → Bool) (cnt : Nat), Hid (wr.ranges Tryz.prog 9 (plainElem Tryz.prog 4) gQ X.heap.size 2 D left cnt) ∧ Hid (∀ kl, left kl = true → Maps.has D kl = true) ∧ Hid (∀ kl, Maps.has D kl = true → left kl = false → ∀ zd, D.atKey kl zd = .lit (.bool true)) ∧ Hid (Below w.heap.size w wr)) (fun _ wr => wr.rangeLeft gQ X.heap.size)
          case atStart => exact ⟨_, _, HRG0, Lib.hid (fun kl h => h), Lib.hid (fun kl h h2 => by rw [h] at h2; cases h2), HB0⟩
          case round =>
            obtain ⟨left, cnt, HRG, HLf, HVl, HBr⟩ := hrel
            go_wp2_with (at_next; refine wpList_next_ranges _ rfl _ rfl 9 keyed_str (plainElem Tryz.prog 4) Value.string Value.bool inv_str (fun v y h => (inv_bool v y h).imp fun c h => h.1) gQ X.heap.size 2 D left cnt rfl HRG.out ?_ ?_; intro hc0 hl0; rotate_left; intro s c kl y w2 cnt2 hkl hlk hR hat hrg2 hlt hgr hsz hen; have hy := may_elem hR; rw [hy] at hat; have HAT := Lib.hid hat; have HLK := Lib.hid hlk; have HRG2 := Lib.hid hrg2; have HLT := Lib.hid hlt; have HB2 := Lib.hid (grown_below HBr.out hgr (Nat.le_refl _) (fun q hq => by injection hq with hq; have := HBq.out.size; omega)); clear hkl hlk hR hat hrg2 hlt hgr hsz hy; cases c)
            · have HR12 := Lib.hid (may_none H3.out HP4.out HP5.out (HLf.out _ HLK.out) HAT.out)
              go_ret
              exact ⟨by rw [HR12.out]; rfl, HB2.out⟩
            · have HLf2 := Lib.hid (may_left HLf.out (kl := kl))
              have HVl2 := Lib.hid (may_next HVl.out HAT.out)
              go_roundw
              case rel => exact ⟨_, _, HRG2, HLf2, HVl2, HB2⟩
              case measure => rw [HRG2.out.left_eq, HRG.out.left_eq]; exact HLT.out
            · have HR12 := Lib.hid (may_all HP4.out HP5.out HVl.out hl0)
              clear hc0 hl0
              go_ret
              exact ⟨by rw [HR12.out]; rfl, HBr.out⟩
        refine AllReadyH.cons (o := ⟨some 40, _, _, _, _, _⟩) rfl (fun K hK => ?_) ?_
        · skip
          go_simp
          refine Calls.mono (CI.out _ hHeld.2.2) ?_
          rintro e x3 ⟨rfl, hb1⟩
          replace GQ := GQ.new hb1
          refine hK.out _ _ ⟨hHeld.1.new hb1, hHeld.2.1.new hb1, below_trans hHeld.2.2 hb1 (Nat.le_refl _)⟩ (fun hHeld' => ?_)
          clear hK K hHeld hb1
          have hHeld := hHeld'
          clear hHeld'
          try simp only [Act.put, List.setIfInBounds_toArray, List.set_cons_zero, List.set_cons_succ]
          refine wpAnyH_ready (rs := [5, 20]) (by kernel_rfl) (by simp) ?_
          refine AllReadyH.cons (o := ⟨none, _, _, _, _, _⟩) rfl (fun K hK => ?_) ?_
          · skip
            obtain ⟨xq, hrun, hGQ, hgr⟩ := GQ.put1 (by unfold maxLen; omega) b1
            go_simp
            refine hK.out _ _ ⟨hHeld.1.grown hgr (by omega), hHeld.2.1.grown hgr (by omega), grown_below hHeld.2.2 hgr (Nat.le_refl _) (fun q hq => by injection hq with hq; omega)⟩ (fun hHeld' => ?_)
            clear hK K hHeld hrun hgr
            replace GQ := hGQ
            clear hGQ
            have hHeld := hHeld'
            clear hHeld'
            generalize xq = x4 at hHeld GQ ⊢
            try simp only [Act.put, List.setIfInBounds_toArray, List.set_cons_zero, List.set_cons_succ]
            refine wpAnyH_ready (rs := [20]) (by kernel_rfl) (by simp) ?_
            refine AllReadyH.cons (o := ⟨some 41, _, _, _, _, _⟩) rfl (fun K hK => ?_) AllReadyH.nil
            go_simp
            refine Calls.mono (CM.out _ hHeld.2.2) ?_
            rintro e x5 ⟨rfl, hb1⟩
            replace GQ := GQ.new hb1
            refine hK.out _ _ ⟨hHeld.1.new hb1, hHeld.2.1.new hb1, below_trans hHeld.2.2 hb1 (Nat.le_refl _)⟩ (fun hHeld' => ?_)
            clear hK K hHeld hb1
            have hHeld := hHeld'
            clear hHeld'
            try simp only [Act.put, List.setIfInBounds_toArray, List.set_cons_zero, List.set_cons_succ]
            refine wpAnyH_ready (rs := [21]) (by kernel_rfl) (by simp) ?_
            refine AllReadyH.cons (o := ⟨none, _, _, _, _, _⟩) rfl (fun K hK => ?_) AllReadyH.nil
            obtain ⟨xq, hrun, hGQ, hgr⟩ := GQ.put2 (by unfold maxLen; omega) b2
            go_simp
            refine hK.out _ _ ⟨hHeld.1.grown hgr (by omega), hHeld.2.1.grown hgr (by omega), grown_below hHeld.2.2 hgr (Nat.le_refl _) (fun q hq => by injection hq with hq; omega)⟩ (fun hHeld' => ?_)
            clear hK K hHeld hrun hgr
            replace GQ := hGQ
            clear hGQ
            have hHeld := hHeld'
            clear hHeld'
            generalize xq = x6 at hHeld GQ ⊢
            try simp only [Act.put, List.setIfInBounds_toArray, List.set_cons_zero, List.set_cons_succ]
            refine wpAnyH_take (i := 22) (oi := ⟨some 42, _, _, _, _, _⟩) (v := ?_) rfl (by kernel_rfl) (by kernel_rfl) (by kernel_rfl) (fun _ _ _ h => h) (Or.inl ⟨by kernel_rfl, ?_⟩) hHeld ?_
            rotate_left
            focus (intro W hS; have c0_0 := (hS.1).at_ (j := 0) rfl; have c0_1 := (hS.1).at_ (j := 1) rfl; have c0_2 := (hS.1).at_ (j := 2) rfl; have c0_3 := (hS.1).at_ (j := 3) rfl; have c0_4 := (hS.1).at_ (j := 4) rfl; have c0_5 := (hS.1).at_ (j := 5) rfl; have c0_6 := (hS.1).at_ (j := 6) rfl; have c0_7 := (hS.1).at_ (j := 7) rfl; have c1_0 := (hS.2.1).at_ (j := 0) rfl; have c1_1 := (hS.2.1).at_ (j := 1) rfl; have c1_2 := (hS.2.1).at_ (j := 2) rfl; have c1_3 := (hS.2.1).at_ (j := 3) rfl; have c1_4 := (hS.2.1).at_ (j := 4) rfl; have c1_5 := (hS.2.1).at_ (j := 5) rfl; clear hS; first | (go_simp; done) | (go_simp; with_reducible rfl))
            try simp only [Act.put, List.setIfInBounds_toArray, List.set_cons_zero, List.set_cons_succ]
            refine wpAnyH_take (i := 23) (oi := ⟨some 10, _, _, _, _, _⟩) (v := ?_) rfl (by kernel_rfl) (by kernel_rfl) (by kernel_rfl) (fun _ _ _ h => h) (Or.inl ⟨by kernel_rfl, ?_⟩) hHeld ?_
            rotate_left
            focus (intro W hS; have c0_0 := (hS.1).at_ (j := 0) rfl; have c0_1 := (hS.1).at_ (j := 1) rfl; have c0_2 := (hS.1).at_ (j := 2) rfl; have c0_3 := (hS.1).at_ (j := 3) rfl; have c0_4 := (hS.1).at_ (j := 4) rfl; have c0_5 := (hS.1).at_ (j := 5) rfl; have c0_6 := (hS.1).at_ (j := 6) rfl; have c0_7 := (hS.1).at_ (j := 7) rfl; have c1_0 := (hS.2.1).at_ (j := 0) rfl; have c1_1 := (hS.2.1).at_ (j := 1) rfl; have c1_2 := (hS.2.1).at_ (j := 2) rfl; have c1_3 := (hS.2.1).at_ (j := 3) rfl; have c1_4 := (hS.2.1).at_ (j := 4) rfl; have c1_5 := (hS.2.1).at_ (j := 5) rfl; clear hS; first | (go_simp; done) | (go_simp; with_reducible rfl))
            try simp only [Act.put, List.setIfInBounds_toArray, List.set_cons_zero, List.set_cons_succ]
            refine wpAnyH_done (by kernel_rfl) ?_ _
            rename World => X
            have HBq := Lib.hid hHeld.2.2
            obtain ⟨D, h1, h2, h3, h4, h5⟩ := GQ
            have HO := Lib.hid h1
            have H3 := Lib.hid h3
            have HP4 := Lib.hid (h4 b1 rfl)
            have HP5 := Lib.hid (h5 b2 rfl)
            clear hHeld h1 h2 h3 h4 h5
            go_wp2_with (at_range; refine wpList_range_own _ rfl _ _ rfl _ _ keyed_str under_q _ gQ 2 D rfl HO.out ?_; intro w0 hrg0 hg0 hs0)
            go_frame
            have HRG0 := Lib.hid hrg0
            have HB0 := Lib.hid (grown_below HBq.out hg0 (Nat.le_refl _) (fun k h => by cases h))
            clear hrg0 hg0 hs0
            go_loopw [12] (fun v wr => ∃ (left : Lit → Bool) (cnt : Nat), Hid (wr.ranges Tryz.prog 9 (plainElem Tryz.prog 4) gQ X.heap.size 2 D left cnt) ∧ Hid (∀ kl, left kl = true → Maps.has D kl = true) ∧ Hid (∀ kl, Maps.has D kl = true → left kl = false → ∀ zd, D.atKey kl zd = .lit (.bool true)) ∧ Hid (Below w.heap.size w wr)) (fun _ wr => wr.rangeLeft gQ X.heap.size)
            case atStart => exact ⟨_, _, HRG0, Lib.hid (fun kl h => h), Lib.hid (fun kl h h2 => by rw [h] at h2; cases h2), HB0⟩
            case round =>
              obtain ⟨left, cnt, HRG, HLf, HVl, HBr⟩ := hrel
              go_wp2_with (at_next; refine wpList_next_ranges _ rfl _ rfl 9 keyed_str (plainElem Tryz.prog 4) Value.string Value.bool inv_str (fun v y h => (inv_bool v y h).imp fun c h => h.1) gQ X.heap.size 2 D left cnt rfl HRG.out ?_ ?_; intro hc0 hl0; rotate_left; intro s c kl y w2 cnt2 hkl hlk hR hat hrg2 hlt hgr hsz hen; have hy := may_elem hR; rw [hy] at hat; have HAT := Lib.hid hat; have HLK := Lib.hid hlk; have HRG2 := Lib.hid hrg2; have HLT := Lib.hid hlt; have HB2 := Lib.hid (grown_below HBr.out hgr (Nat.le_refl _) (fun q hq => by injection hq with hq; have := HBq.out.size; omega)); clear hkl hlk hR hat hrg2 hlt hgr hsz hy; cases c)
              · have HR12 := Lib.hid (may_none H3.out HP4.out HP5.out (HLf.out _ HLK.out) HAT.out)
                go_ret
                exact ⟨by rw [HR12.out]; rfl, HB2.out⟩
              · have HLf2 := Lib.hid (may_left HLf.out (kl := kl))
                have HVl2 := Lib.hid (may_next HVl.out HAT.out)
                go_roundw
                case rel => exact ⟨_, _, HRG2, HLf2, HVl2, HB2⟩
                case measure => rw [HRG2.out.left_eq, HRG.out.left_eq]; exact HLT.out
              · have HR12 := Lib.hid (may_all HP4.out HP5.out HVl.out hl0)
                clear hc0 hl0
                go_ret
                exact ⟨by rw [HR12.out]; rfl, HBr.out⟩
          refine AllReadyH.cons (o := ⟨some 41, _, _, _, _, _⟩) rfl (fun K hK => ?_) ?_
          · skip
            go_simp
            refine Calls.mono (CM.out _ hHeld.2.2) ?_
            rintro e x4 ⟨rfl, hb1⟩
            replace GQ := GQ.new hb1
            refine hK.out _ _ ⟨hHeld.1.new hb1, hHeld.2.1.new hb1, below_trans hHeld.2.2 hb1 (Nat.le_refl _)⟩ (fun hHeld' => ?_)
            clear hK K hHeld hb1
            have hHeld := hHeld'
            clear hHeld'
            try simp only [Act.put, List.setIfInBounds_toArray, List.set_cons_zero, List.set_cons_succ]
            refine wpAnyH_ready (rs := [5, 21]) (by kernel_rfl) (by simp) ?_
            refine AllReadyH.cons (o := ⟨none, _, _, _, _, _⟩) rfl (fun K hK => ?_) ?_
            · skip
              obtain ⟨xq, hrun, hGQ, hgr⟩ := GQ.put1 (by unfold maxLen; omega) b1
              go_simp
              refine hK.out _ _ ⟨hHeld.1.grown hgr (by omega), hHeld.2.1.grown hgr (by omega), grown_below hHeld.2.2 hgr (Nat.le_refl _) (fun q hq => by injection hq with hq; omega)⟩ (fun hHeld' => ?_)
              clear hK K hHeld hrun hgr
              replace GQ := hGQ
              clear hGQ
              have hHeld := hHeld'
              clear hHeld'
              generalize xq = x5 at hHeld GQ ⊢
              try simp only [Act.put, List.setIfInBounds_toArray, List.set_cons_zero, List.set_cons_succ]
              refine wpAnyH_ready (rs := [21]) (by kernel_rfl) (by simp) ?_
              refine AllReadyH.cons (o := ⟨none, _, _, _, _, _⟩) rfl (fun K hK => ?_) AllReadyH.nil
              obtain ⟨xq, hrun, hGQ, hgr⟩ := GQ.put2 (by unfold maxLen; omega) b2
              go_simp
              refine hK.out _ _ ⟨hHeld.1.grown hgr (by omega), hHeld.2.1.grown hgr (by omega), grown_below hHeld.2.2 hgr (Nat.le_refl _) (fun q hq => by injection hq with hq; omega)⟩ (fun hHeld' => ?_)
              clear hK K hHeld hrun hgr
              replace GQ := hGQ
              clear hGQ
              have hHeld := hHeld'
              clear hHeld'
              generalize xq = x6 at hHeld GQ ⊢
              try simp only [Act.put, List.setIfInBounds_toArray, List.set_cons_zero, List.set_cons_succ]
              refine wpAnyH_take (i := 22) (oi := ⟨some 42, _, _, _, _, _⟩) (v := ?_) rfl (by kernel_rfl) (by kernel_rfl) (by kernel_rfl) (fun _ _ _ h => h) (Or.inl ⟨by kernel_rfl, ?_⟩) hHeld ?_
              rotate_left
              focus (intro W hS; have c0_0 := (hS.1).at_ (j := 0) rfl; have c0_1 := (hS.1).at_ (j := 1) rfl; have c0_2 := (hS.1).at_ (j := 2) rfl; have c0_3 := (hS.1).at_ (j := 3) rfl; have c0_4 := (hS.1).at_ (j := 4) rfl; have c0_5 := (hS.1).at_ (j := 5) rfl; have c0_6 := (hS.1).at_ (j := 6) rfl; have c0_7 := (hS.1).at_ (j := 7) rfl; have c1_0 := (hS.2.1).at_ (j := 0) rfl; have c1_1 := (hS.2.1).at_ (j := 1) rfl; have c1_2 := (hS.2.1).at_ (j := 2) rfl; have c1_3 := (hS.2.1).at_ (j := 3) rfl; have c1_4 := (hS.2.1).at_ (j := 4) rfl; have c1_5 := (hS.2.1).at_ (j := 5) rfl; clear hS; first | (go_simp; done) | (go_simp; with_reducible rfl))
              try simp only [Act.put, List.setIfInBounds_toArray, List.set_cons_zero, List.set_cons_succ]
              refine wpAnyH_take (i := 23) (oi := ⟨some 10, _, _, _, _, _⟩) (v := ?_) rfl (by kernel_rfl) (by kernel_rfl) (by kernel_rfl) (fun _ _ _ h => h) (Or.inl ⟨by kernel_rfl, ?_⟩) hHeld ?_
              rotate_left
              focus (intro W hS; have c0_0 := (hS.1).at_ (j := 0) rfl; have c0_1 := (hS.1).at_ (j := 1) rfl; have c0_2 := (hS.1).at_ (j := 2) rfl; have c0_3 := (hS.1).at_ (j := 3) rfl; have c0_4 := (hS.1).at_ (j := 4) rfl; have c0_5 := (hS.1).at_ (j := 5) rfl; have c0_6 := (hS.1).at_ (j := 6) rfl; have c0_7 := (hS.1).at_ (j := 7) rfl; have c1_0 := (hS.2.1).at_ (j := 0) rfl; have c1_1 := (hS.2.1).at_ (j := 1) rfl; have c1_2 := (hS.2.1).at_ (j := 2) rfl; have c1_3 := (hS.2.1).at_ (j := 3) rfl; have c1_4 := (hS.2.1).at_ (j := 4) rfl; have c1_5 := (hS.2.1).at_ (j := 5) rfl; clear hS; first | (go_simp; done) | (go_simp; with_reducible rfl))
              try simp only [Act.put, List.setIfInBounds_toArray, List.set_cons_zero, List.set_cons_succ]
              refine wpAnyH_done (by kernel_rfl) ?_ _
              rename World => X
              have HBq := Lib.hid hHeld.2.2
              obtain ⟨D, h1, h2, h3, h4, h5⟩ := GQ
              have HO := Lib.hid h1
              have H3 := Lib.hid h3
              have HP4 := Lib.hid (h4 b1 rfl)
              have HP5 := Lib.hid (h5 b2 rfl)
              clear hHeld h1 h2 h3 h4 h5
              go_wp2_with (at_range; refine wpList_range_own _ rfl _ _ rfl _ _ keyed_str under_q _ gQ 2 D rfl HO.out ?_; intro w0 hrg0 hg0 hs0)
              go_frame
              have HRG0 := Lib.hid hrg0
              have HB0 := Lib.hid (grown_below HBq.out hg0 (Nat.le_refl _) (fun k h => by cases h))
              clear hrg0 hg0 hs0
              go_loopw [12] (fun v wr => ∃ (left : Lit → Bool) (cnt : Nat), Hid (wr.ranges Tryz.prog 9 (plainElem Tryz.prog 4) gQ X.heap.size 2 D left cnt) ∧ Hid (∀ kl, left kl = true → Maps.has D kl = true) ∧ Hid (∀ kl, Maps.has D kl = true → left kl = false → ∀ zd, D.atKey kl zd = .lit (.bool true)) ∧ Hid (Below w.heap.size w wr)) (fun _ wr => wr.rangeLeft gQ X.heap.size)
              case atStart => exact ⟨_, _, HRG0, Lib.hid (fun kl h => h), Lib.hid (fun kl h h2 => by rw [h] at h2; cases h2), HB0⟩
              case round =>
                obtain ⟨left, cnt, HRG, HLf, HVl, HBr⟩ := hrel
                go_wp2_with (at_next; refine wpList_next_ranges _ rfl _ rfl 9 keyed_str (plainElem Tryz.prog 4) Value.string Value.bool inv_str (fun v y h => (inv_bool v y h).imp fun c h => h.1) gQ X.heap.size 2 D left cnt rfl HRG.out ?_ ?_; intro hc0 hl0; rotate_left; intro s c kl y w2 cnt2 hkl hlk hR hat hrg2 hlt hgr hsz hen; have hy := may_elem hR; rw [hy] at hat; have HAT := Lib.hid hat; have HLK := Lib.hid hlk; have HRG2 := Lib.hid hrg2; have HLT := Lib.hid hlt; have HB2 := Lib.hid (grown_below HBr.out hgr (Nat.le_refl _) (fun q hq => by injection hq with hq; have := HBq.out.size; omega)); clear hkl hlk hR hat hrg2 hlt hgr hsz hy; cases c)
                · have HR12 := Lib.hid (may_none H3.out HP4.out HP5.out (HLf.out _ HLK.out) HAT.out)
                  go_ret
                  exact ⟨by rw [HR12.out]; rfl, HB2.out⟩
                · have HLf2 := Lib.hid (may_left HLf.out (kl := kl))
                  have HVl2 := Lib.hid (may_next HVl.out HAT.out)
                  go_roundw
                  case rel => exact ⟨_, _, HRG2, HLf2, HVl2, HB2⟩
                  case measure => rw [HRG2.out.left_eq, HRG.out.left_eq]; exact HLT.out
                · have HR12 := Lib.hid (may_all HP4.out HP5.out HVl.out hl0)
                  clear hc0 hl0
                  go_ret
                  exact ⟨by rw [HR12.out]; rfl, HBr.out⟩
            refine AllReadyH.cons (o := ⟨none, _, _, _, _, _⟩) rfl (fun K hK => ?_) ?_
            · skip
              obtain ⟨xq, hrun, hGQ, hgr⟩ := GQ.put2 (by unfold maxLen; omega) b2
              go_simp
              refine hK.out _ _ ⟨hHeld.1.grown hgr (by omega), hHeld.2.1.grown hgr (by omega), grown_below hHeld.2.2 hgr (Nat.le_refl _) (fun q hq => by injection hq with hq; omega)⟩ (fun hHeld' => ?_)
              clear hK K hHeld hrun hgr
              replace GQ := hGQ
              clear hGQ
              have hHeld := hHeld'
              clear hHeld'
              generalize xq = x5 at hHeld GQ ⊢
              try simp only [Act.put, List.setIfInBounds_toArray, List.set_cons_zero, List.set_cons_succ]
              refine wpAnyH_ready (rs := [5]) (by kernel_rfl) (by simp) ?_
              refine AllReadyH.cons (o := ⟨none, _, _, _, _, _⟩) rfl (fun K hK => ?_) AllReadyH.nil
              obtain ⟨xq, hrun, hGQ, hgr⟩ := GQ.put1 (by unfold maxLen; omega) b1
              go_simp
              refine hK.out _ _ ⟨hHeld.1.grown hgr (by omega), hHeld.2.1.grown hgr (by omega), grown_below hHeld.2.2 hgr (Nat.le_refl _) (fun q hq => by injection hq with hq; omega)⟩ (fun hHeld' => ?_)
              clear hK K hHeld hrun hgr
              replace GQ := hGQ
              clear hGQ
              have hHeld := hHeld'
              clear hHeld'
              generalize xq = x6 at hHeld GQ ⊢
              try simp only [Act.put, List.setIfInBounds_toArray, List.set_cons_zero, List.set_cons_succ]
              refine wpAnyH_take (i := 22) (oi := ⟨some 42, _, _, _, _, _⟩) (v := ?_) rfl (by kernel_rfl) (by kernel_rfl) (by kernel_rfl) (fun _ _ _ h => h) (Or.inl ⟨by kernel_rfl, ?_⟩) hHeld ?_
              rotate_left
              focus (intro W hS; have c0_0 := (hS.1).at_ (j := 0) rfl; have c0_1 := (hS.1).at_ (j := 1) rfl; have c0_2 := (hS.1).at_ (j := 2) rfl; have c0_3 := (hS.1).at_ (j := 3) rfl; have c0_4 := (hS.1).at_ (j := 4) rfl; have c0_5 := (hS.1).at_ (j := 5) rfl; have c0_6 := (hS.1).at_ (j := 6) rfl; have c0_7 := (hS.1).at_ (j := 7) rfl; have c1_0 := (hS.2.1).at_ (j := 0) rfl; have c1_1 := (hS.2.1).at_ (j := 1) rfl; have c1_2 := (hS.2.1).at_ (j := 2) rfl; have c1_3 := (hS.2.1).at_ (j := 3) rfl; have c1_4 := (hS.2.1).at_ (j := 4) rfl; have c1_5 := (hS.2.1).at_ (j := 5) rfl; clear hS; first | (go_simp; done) | (go_simp; with_reducible rfl))
              try simp only [Act.put, List.setIfInBounds_toArray, List.set_cons_zero, List.set_cons_succ]
              refine wpAnyH_take (i := 23) (oi := ⟨some 10, _, _, _, _, _⟩) (v := ?_) rfl (by kernel_rfl) (by kernel_rfl) (by kernel_rfl) (fun _ _ _ h => h) (Or.inl ⟨by kernel_rfl, ?_⟩) hHeld ?_
              rotate_left
              focus (intro W hS; have c0_0 := (hS.1).at_ (j := 0) rfl; have c0_1 := (hS.1).at_ (j := 1) rfl; have c0_2 := (hS.1).at_ (j := 2) rfl; have c0_3 := (hS.1).at_ (j := 3) rfl; have c0_4 := (hS.1).at_ (j := 4) rfl; have c0_5 := (hS.1).at_ (j := 5) rfl; have c0_6 := (hS.1).at_ (j := 6) rfl; have c0_7 := (hS.1).at_ (j := 7) rfl; have c1_0 := (hS.2.1).at_ (j := 0) rfl; have c1_1 := (hS.2.1).at_ (j := 1) rfl; have c1_2 := (hS.2.1).at_ (j := 2) rfl; have c1_3 := (hS.2.1).at_ (j := 3) rfl; have c1_4 := (hS.2.1).at_ (j := 4) rfl; have c1_5 := (hS.2.1).at_ (j := 5) rfl; clear hS; first | (go_simp; done) | (go_simp; with_reducible rfl))
              try simp only [Act.put, List.setIfInBounds_toArray, List.set_cons_zero, List.set_cons_succ]
              refine wpAnyH_done (by kernel_rfl) ?_ _
              rename World => X
              have HBq := Lib.hid hHeld.2.2
              obtain ⟨D, h1, h2, h3, h4, h5⟩ := GQ
              have HO := Lib.hid h1
              have H3 := Lib.hid h3
              have HP4 := Lib.hid (h4 b1 rfl)
              have HP5 := Lib.hid (h5 b2 rfl)
              clear hHeld h1 h2 h3 h4 h5
              go_wp2_with (at_range; refine wpList_range_own _ rfl _ _ rfl _ _ keyed_str under_q _ gQ 2 D rfl HO.out ?_; intro w0 hrg0 hg0 hs0)
              go_frame
              have HRG0 := Lib.hid hrg0
              have HB0 := Lib.hid (grown_below HBq.out hg0 (Nat.le_refl _) (fun k h => by cases h))
              clear hrg0 hg0 hs0
              go_loopw [12] (fun v wr => ∃ (left : Lit → Bool) (cnt : Nat), Hid (wr.ranges Tryz.prog 9 (plainElem Tryz.prog 4) gQ X.heap.size 2 D left cnt) ∧ Hid (∀ kl, left kl = true → Maps.has D kl = true) ∧ Hid (∀ kl, Maps.has D kl = true → left kl = false → ∀ zd, D.atKey kl zd = .lit (.bool true)) ∧ Hid (Below w.heap.size w wr)) (fun _ wr => wr.rangeLeft gQ X.heap.size)
              case atStart => exact ⟨_, _, HRG0, Lib.hid (fun kl h => h), Lib.hid (fun kl h h2 => by rw [h] at h2; cases h2), HB0⟩
              case round =>
                obtain ⟨left, cnt, HRG, HLf, HVl, HBr⟩ := hrel
                go_wp2_with (at_next; refine wpList_next_ranges _ rfl _ rfl 9 keyed_str (plainElem Tryz.prog 4) Value.string Value.bool inv_str (fun v y h => (inv_bool v y h).imp fun c h => h.1) gQ X.heap.size 2 D left cnt rfl HRG.out ?_ ?_; intro hc0 hl0; rotate_left; intro s c kl y w2 cnt2 hkl hlk hR hat hrg2 hlt hgr hsz hen; have hy := may_elem hR; rw [hy] at hat; have HAT := Lib.hid hat; have HLK := Lib.hid hlk; have HRG2 := Lib.hid hrg2; have HLT := Lib.hid hlt; have HB2 := Lib.hid (grown_below HBr.out hgr (Nat.le_refl _) (fun q hq => by injection hq with hq; have := HBq.out.size; omega)); clear hkl hlk hR hat hrg2 hlt hgr hsz hy; cases c)
                · have HR12 := Lib.hid (may_none H3.out HP4.out HP5.out (HLf.out _ HLK.out) HAT.out)
                  go_ret
                  exact ⟨by rw [HR12.out]; rfl, HB2.out⟩
                · have HLf2 := Lib.hid (may_left HLf.out (kl := kl))
                  have HVl2 := Lib.hid (may_next HVl.out HAT.out)
                  go_roundw
                  case rel => exact ⟨_, _, HRG2, HLf2, HVl2, HB2⟩
                  case measure => rw [HRG2.out.left_eq, HRG.out.left_eq]; exact HLT.out
                · have HR12 := Lib.hid (may_all HP4.out HP5.out HVl.out hl0)
                  clear hc0 hl0
                  go_ret
                  exact ⟨by rw [HR12.out]; rfl, HBr.out⟩
            exact AllReadyH.nil
          exact AllReadyH.nil
        exact AllReadyH.nil
      refine AllReadyH.cons (o := ⟨some 40, _, _, _, _, _⟩) rfl (fun K hK => ?_) ?_
      · skip
        go_simp
        refine Calls.mono (CI.out _ hHeld.2.2) ?_
        rintro e x2 ⟨rfl, hb1⟩
        refine hK.out _ _ ⟨hHeld.1.new hb1, hHeld.2.1.new hb1, below_trans hHeld.2.2 hb1 (Nat.le_refl _)⟩ (fun hHeld' => ?_)
        clear hK K hHeld hb1
        have hHeld := hHeld'
        clear hHeld'
        try simp only [Act.put, List.setIfInBounds_toArray, List.set_cons_zero, List.set_cons_succ]
        refine wpAnyH_ready (rs := [0, 20]) (by kernel_rfl) (by simp) ?_
        refine AllReadyH.cons (o := ⟨some 22, _, _, _, _, _⟩) rfl (fun K hK => ?_) ?_
        · skip
          go_simp
          have GQ := mapQ_made x2
          have hb1 := (Below.refl (x2).heap.size x2).alloc (Nat.le_refl _) (.map #[] 0)
          have M0Q : w.heap.size < (x2).heap.size := hHeld.1.lt
          have M1Q : w1.heap.size < (x2).heap.size := hHeld.2.1.lt
          generalize (x2).alloc (.map #[] 0) = xm at hb1 GQ ⊢
          generalize hg : (x2).heap.size = gQ at GQ M0Q M1Q ⊢
          have hb2 : Below (x2).heap.size x2 xm := by rw [hg]; rw [hg] at hb1; exact hb1
          clear hg hb1
          refine hK.out _ _ ⟨hHeld.1.new hb2, hHeld.2.1.new hb2, below_trans hHeld.2.2 hb2 (Nat.le_refl _)⟩ (fun hHeld' => ?_)
          clear hK K hHeld hb2
          have hHeld := hHeld'
          clear hHeld'
          generalize xm = x3 at hHeld GQ ⊢
          try simp only [Act.put, List.setIfInBounds_toArray, List.set_cons_zero, List.set_cons_succ]
          refine wpAnyH_ready (rs := [5, 20]) (by kernel_rfl) (by simp) ?_
          refine AllReadyH.cons (o := ⟨none, _, _, _, _, _⟩) rfl (fun K hK => ?_) ?_
          · skip
            obtain ⟨xq, hrun, hGQ, hgr⟩ := GQ.put1 (by unfold maxLen; omega) b1
            go_simp
            refine hK.out _ _ ⟨hHeld.1.grown hgr (by omega), hHeld.2.1.grown hgr (by omega), grown_below hHeld.2.2 hgr (Nat.le_refl _) (fun q hq => by injection hq with hq; omega)⟩ (fun hHeld' => ?_)
            clear hK K hHeld hrun hgr
            replace GQ := hGQ
            clear hGQ
            have hHeld := hHeld'
            clear hHeld'
            generalize xq = x4 at hHeld GQ ⊢
            try simp only [Act.put, List.setIfInBounds_toArray, List.set_cons_zero, List.set_cons_succ]
            refine wpAnyH_ready (rs := [20]) (by kernel_rfl) (by simp) ?_
            refine AllReadyH.cons (o := ⟨some 41, _, _, _, _, _⟩) rfl (fun K hK => ?_) AllReadyH.nil
            go_simp
            refine Calls.mono (CM.out _ hHeld.2.2) ?_
            rintro e x5 ⟨rfl, hb1⟩
            replace GQ := GQ.new hb1
            refine hK.out _ _ ⟨hHeld.1.new hb1, hHeld.2.1.new hb1, below_trans hHeld.2.2 hb1 (Nat.le_refl _)⟩ (fun hHeld' => ?_)
            clear hK K hHeld hb1
            have hHeld := hHeld'
            clear hHeld'
            try simp only [Act.put, List.setIfInBounds_toArray, List.set_cons_zero, List.set_cons_succ]
            refine wpAnyH_ready (rs := [21]) (by kernel_rfl) (by simp) ?_
            refine AllReadyH.cons (o := ⟨none, _, _, _, _, _⟩) rfl (fun K hK => ?_) AllReadyH.nil
            obtain ⟨xq, hrun, hGQ, hgr⟩ := GQ.put2 (by unfold maxLen; omega) b2
            go_simp
            refine hK.out _ _ ⟨hHeld.1.grown hgr (by omega), hHeld.2.1.grown hgr (by omega), grown_below hHeld.2.2 hgr (Nat.le_refl _) (fun q hq => by injection hq with hq; omega)⟩ (fun hHeld' => ?_)
            clear hK K hHeld hrun hgr
            replace GQ := hGQ
            clear hGQ
            have hHeld := hHeld'
            clear hHeld'
            generalize xq = x6 at hHeld GQ ⊢
            try simp only [Act.put, List.setIfInBounds_toArray, List.set_cons_zero, List.set_cons_succ]
            refine wpAnyH_take (i := 22) (oi := ⟨some 42, _, _, _, _, _⟩) (v := ?_) rfl (by kernel_rfl) (by kernel_rfl) (by kernel_rfl) (fun _ _ _ h => h) (Or.inl ⟨by kernel_rfl, ?_⟩) hHeld ?_
            rotate_left
            focus (intro W hS; have c0_0 := (hS.1).at_ (j := 0) rfl; have c0_1 := (hS.1).at_ (j := 1) rfl; have c0_2 := (hS.1).at_ (j := 2) rfl; have c0_3 := (hS.1).at_ (j := 3) rfl; have c0_4 := (hS.1).at_ (j := 4) rfl; have c0_5 := (hS.1).at_ (j := 5) rfl; have c0_6 := (hS.1).at_ (j := 6) rfl; have c0_7 := (hS.1).at_ (j := 7) rfl; have c1_0 := (hS.2.1).at_ (j := 0) rfl; have c1_1 := (hS.2.1).at_ (j := 1) rfl; have c1_2 := (hS.2.1).at_ (j := 2) rfl; have c1_3 := (hS.2.1).at_ (j := 3) rfl; have c1_4 := (hS.2.1).at_ (j := 4) rfl; have c1_5 := (hS.2.1).at_ (j := 5) rfl; clear hS; first | (go_simp; done) | (go_simp; with_reducible rfl))
            try simp only [Act.put, List.setIfInBounds_toArray, List.set_cons_zero, List.set_cons_succ]
            refine wpAnyH_take (i := 23) (oi := ⟨some 10, _, _, _, _, _⟩) (v := ?_) rfl (by kernel_rfl) (by kernel_rfl) (by kernel_rfl) (fun _ _ _ h => h) (Or.inl ⟨by kernel_rfl, ?_⟩) hHeld ?_
            rotate_left
            focus (intro W hS; have c0_0 := (hS.1).at_ (j := 0) rfl; have c0_1 := (hS.1).at_ (j := 1) rfl; have c0_2 := (hS.1).at_ (j := 2) rfl; have c0_3 := (hS.1).at_ (j := 3) rfl; have c0_4 := (hS.1).at_ (j := 4) rfl; have c0_5 := (hS.1).at_ (j := 5) rfl; have c0_6 := (hS.1).at_ (j := 6) rfl; have c0_7 := (hS.1).at_ (j := 7) rfl; have c1_0 := (hS.2.1).at_ (j := 0) rfl; have c1_1 := (hS.2.1).at_ (j := 1) rfl; have c1_2 := (hS.2.1).at_ (j := 2) rfl; have c1_3 := (hS.2.1).at_ (j := 3) rfl; have c1_4 := (hS.2.1).at_ (j := 4) rfl; have c1_5 := (hS.2.1).at_ (j := 5) rfl; clear hS; first | (go_simp; done) | (go_simp; with_reducible rfl))
            try simp only [Act.put, List.setIfInBounds_toArray, List.set_cons_zero, List.set_cons_succ]
            refine wpAnyH_done (by kernel_rfl) ?_ _
            rename World => X
            have HBq := Lib.hid hHeld.2.2
            obtain ⟨D, h1, h2, h3, h4, h5⟩ := GQ
            have HO := Lib.hid h1
            have H3 := Lib.hid h3
            have HP4 := Lib.hid (h4 b1 rfl)
            have HP5 := Lib.hid (h5 b2 rfl)
            clear hHeld h1 h2 h3 h4 h5
            go_wp2_with (at_range; refine wpList_range_own _ rfl _ _ rfl _ _ keyed_str under_q _ gQ 2 D rfl HO.out ?_; intro w0 hrg0 hg0 hs0)
            go_frame
            have HRG0 := Lib.hid hrg0
            have HB0 := Lib.hid (grown_below HBq.out hg0 (Nat.le_refl _) (fun k h => by cases h))
            clear hrg0 hg0 hs0
            go_loopw [12] (fun v wr => ∃ (left : Lit → Bool) (cnt : Nat), Hid (wr.ranges Tryz.prog 9 (plainElem Tryz.prog 4) gQ X.heap.size 2 D left cnt) ∧ Hid (∀ kl, left kl = true → Maps.has D kl = true) ∧ Hid (∀ kl, Maps.has D kl = true → left kl = false → ∀ zd, D.atKey kl zd = .lit (.bool true)) ∧ Hid (Below w.heap.size w wr)) (fun _ wr => wr.rangeLeft gQ X.heap.size)
            case atStart => exact ⟨_, _, HRG0, Lib.hid (fun kl h => h), Lib.hid (fun kl h h2 => by rw [h] at h2; cases h2), HB0⟩
            case round =>
              obtain ⟨left, cnt, HRG, HLf, HVl, HBr⟩ := hrel
              go_wp2_with (at_next; refine wpList_next_ranges _ rfl _ rfl 9 keyed_str (plainElem Tryz.prog 4) Value.string Value.bool inv_str (fun v y h => (inv_bool v y h).imp fun c h => h.1) gQ X.heap.size 2 D left cnt rfl HRG.out ?_ ?_; intro hc0 hl0; rotate_left; intro s c kl y w2 cnt2 hkl hlk hR hat hrg2 hlt hgr hsz hen; have hy := may_elem hR; rw [hy] at hat; have HAT := Lib.hid hat; have HLK := Lib.hid hlk; have HRG2 := Lib.hid hrg2; have HLT := Lib.hid hlt; have HB2 := Lib.hid (grown_below HBr.out hgr (Nat.le_refl _) (fun q hq => by injection hq with hq; have := HBq.out.size; omega)); clear hkl hlk hR hat hrg2 hlt hgr hsz hy; cases c)
              · have HR12 := Lib.hid (may_none H3.out HP4.out HP5.out (HLf.out _ HLK.out) HAT.out)
                go_ret
                exact ⟨by rw [HR12.out]; rfl, HB2.out⟩
              · have HLf2 := Lib.hid (may_left HLf.out (kl := kl))
                have HVl2 := Lib.hid (may_next HVl.out HAT.out)
                go_roundw
                case rel => exact ⟨_, _, HRG2, HLf2, HVl2, HB2⟩
                case measure => rw [HRG2.out.left_eq, HRG.out.left_eq]; exact HLT.out
              · have HR12 := Lib.hid (may_all HP4.out HP5.out HVl.out hl0)
                clear hc0 hl0
                go_ret
                exact ⟨by rw [HR12.out]; rfl, HBr.out⟩
          refine AllReadyH.cons (o := ⟨some 41, _, _, _, _, _⟩) rfl (fun K hK => ?_) ?_
          · skip
            go_simp
            refine Calls.mono (CM.out _ hHeld.2.2) ?_
            rintro e x4 ⟨rfl, hb1⟩
            replace GQ := GQ.new hb1
            refine hK.out _ _ ⟨hHeld.1.new hb1, hHeld.2.1.new hb1, below_trans hHeld.2.2 hb1 (Nat.le_refl _)⟩ (fun hHeld' => ?_)
            clear hK K hHeld hb1
            have hHeld := hHeld'
            clear hHeld'
            try simp only [Act.put, List.setIfInBounds_toArray, List.set_cons_zero, List.set_cons_succ]
            refine wpAnyH_ready (rs := [5, 21]) (by kernel_rfl) (by simp) ?_
            refine AllReadyH.cons (o := ⟨none, _, _, _, _, _⟩) rfl (fun K hK => ?_) ?_
            · skip
              obtain ⟨xq, hrun, hGQ, hgr⟩ := GQ.put1 (by unfold maxLen; omega) b1
              go_simp
              refine hK.out _ _ ⟨hHeld.1.grown hgr (by omega), hHeld.2.1.grown hgr (by omega), grown_below hHeld.2.2 hgr (Nat.le_refl _) (fun q hq => by injection hq with hq; omega)⟩ (fun hHeld' => ?_)
              clear hK K hHeld hrun hgr
              replace GQ := hGQ
              clear hGQ
              have hHeld := hHeld'
              clear hHeld'
              generalize xq = x5 at hHeld GQ ⊢
              try simp only [Act.put, List.setIfInBounds_toArray, List.set_cons_zero, List.set_cons_succ]
              refine wpAnyH_ready (rs := [21]) (by kernel_rfl) (by simp) ?_
              refine AllReadyH.cons (o := ⟨none, _, _, _, _, _⟩) rfl (fun K hK => ?_) AllReadyH.nil
              obtain ⟨xq, hrun, hGQ, hgr⟩ := GQ.put2 (by unfold maxLen; omega) b2
              go_simp
              refine hK.out _ _ ⟨hHeld.1.grown hgr (by omega), hHeld.2.1.grown hgr (by omega), grown_below hHeld.2.2 hgr (Nat.le_refl _) (fun q hq => by injection hq with hq; omega)⟩ (fun hHeld' => ?_)
              clear hK K hHeld hrun hgr
              replace GQ := hGQ
              clear hGQ
              have hHeld := hHeld'
              clear hHeld'
              generalize xq = x6 at hHeld GQ ⊢
              try simp only [Act.put, List.setIfInBounds_toArray, List.set_cons_zero, List.set_cons_succ]
              refine wpAnyH_take (i := 22) (oi := ⟨some 42, _, _, _, _, _⟩) (v := ?_) rfl (by kernel_rfl) (by kernel_rfl) (by kernel_rfl) (fun _ _ _ h => h) (Or.inl ⟨by kernel_rfl, ?_⟩) hHeld ?_
              rotate_left
              focus (intro W hS; have c0_0 := (hS.1).at_ (j := 0) rfl; have c0_1 := (hS.1).at_ (j := 1) rfl; have c0_2 := (hS.1).at_ (j := 2) rfl; have c0_3 := (hS.1).at_ (j := 3) rfl; have c0_4 := (hS.1).at_ (j := 4) rfl; have c0_5 := (hS.1).at_ (j := 5) rfl; have c0_6 := (hS.1).at_ (j := 6) rfl; have c0_7 := (hS.1).at_ (j := 7) rfl; have c1_0 := (hS.2.1).at_ (j := 0) rfl; have c1_1 := (hS.2.1).at_ (j := 1) rfl; have c1_2 := (hS.2.1).at_ (j := 2) rfl; have c1_3 := (hS.2.1).at_ (j := 3) rfl; have c1_4 := (hS.2.1).at_ (j := 4) rfl; have c1_5 := (hS.2.1).at_ (j := 5) rfl; clear hS; first | (go_simp; done) | (go_simp; with_reducible rfl))
              try simp only [Act.put, List.setIfInBounds_toArray, List.set_cons_zero, List.set_cons_succ]
              refine wpAnyH_take (i := 23) (oi := ⟨some 10, _, _, _, _, _⟩) (v := ?_) rfl (by kernel_rfl) (by kernel_rfl) (by kernel_rfl) (fun _ _ _ h => h) (Or.inl ⟨by kernel_rfl, ?_⟩) hHeld ?_
              rotate_left
              focus (intro W hS; have c0_0 := (hS.1).at_ (j := 0) rfl; have c0_1 := (hS.1).at_ (j := 1) rfl; have c0_2 := (hS.1).at_ (j := 2) rfl; have c0_3 := (hS.1).at_ (j := 3) rfl; have c0_4 := (hS.1).at_ (j := 4) rfl; have c0_5 := (hS.1).at_ (j := 5) rfl; have c0_6 := (hS.1).at_ (j := 6) rfl; have c0_7 := (hS.1).at_ (j := 7) rfl; have c1_0 := (hS.2.1).at_ (j := 0) rfl; have c1_1 := (hS.2.1).at_ (j := 1) rfl; have c1_2 := (hS.2.1).at_ (j := 2) rfl; have c1_3 := (hS.2.1).at_ (j := 3) rfl; have c1_4 := (hS.2.1).at_ (j := 4) rfl; have c1_5 := (hS.2.1).at_ (j := 5) rfl; clear hS; first | (go_simp; done) | (go_simp; with_reducible rfl))
              try simp only [Act.put, List.setIfInBounds_toArray, List.set_cons_zero, List.set_cons_succ]
              refine wpAnyH_done (by kernel_rfl) ?_ _
              rename World => X
              have HBq := Lib.hid hHeld.2.2
              obtain ⟨D, h1, h2, h3, h4, h5⟩ := GQ
              have HO := Lib.hid h1
              have H3 := Lib.hid h3
              have HP4 := Lib.hid (h4 b1 rfl)
              have HP5 := Lib.hid (h5 b2 rfl)
              clear hHeld h1 h2 h3 h4 h5
              go_wp2_with (at_range; refine wpList_range_own _ rfl _ _ rfl _ _ keyed_str under_q _ gQ 2 D rfl HO.out ?_; intro w0 hrg0 hg0 hs0)
              go_frame
              have HRG0 := Lib.hid hrg0
              have HB0 := Lib.hid (grown_below HBq.out hg0 (Nat.le_refl _) (fun k h => by cases h))
              clear hrg0 hg0 hs0
              go_loopw [12] (fun v wr => ∃ (left : Lit → Bool) (cnt : Nat), Hid (wr.ranges Tryz.prog 9 (plainElem Tryz.prog 4) gQ X.heap.size 2 D left cnt) ∧ Hid (∀ kl, left kl = true → Maps.has D kl = true) ∧ Hid (∀ kl, Maps.has D kl = true → left kl = false → ∀ zd, D.atKey kl zd = .lit (.bool true)) ∧ Hid (Below w.heap.size w wr)) (fun _ wr => wr.rangeLeft gQ X.heap.size)
              case atStart => exact ⟨_, _, HRG0, Lib.hid (fun kl h => h), Lib.hid (fun kl h h2 => by rw [h] at h2; cases h2), HB0⟩
              case round =>
                obtain ⟨left, cnt, HRG, HLf, HVl, HBr⟩ := hrel
                go_wp2_with (at_next; refine wpList_next_ranges _ rfl _ rfl 9 keyed_str (plainElem Tryz.prog 4) Value.string Value.bool inv_str (fun v y h => (inv_bool v y h).imp fun c h => h.1) gQ X.heap.size 2 D left cnt rfl HRG.out ?_ ?_; intro hc0 hl0; rotate_left; intro s c kl y w2 cnt2 hkl hlk hR hat hrg2 hlt hgr hsz hen; have hy := may_elem hR; rw [hy] at hat; have HAT := Lib.hid hat; have HLK := Lib.hid hlk; have HRG2 := Lib.hid hrg2; have HLT := Lib.hid hlt; have HB2 := Lib.hid (grown_below HBr.out hgr (Nat.le_refl _) (fun q hq => by injection hq with hq; have := HBq.out.size; omega)); clear hkl hlk hR hat hrg2 hlt hgr hsz hy; cases c)
                · have HR12 := Lib.hid (may_none H3.out HP4.out HP5.out (HLf.out _ HLK.out) HAT.out)
                  go_ret
                  exact ⟨by rw [HR12.out]; rfl, HB2.out⟩
                · have HLf2 := Lib.hid (may_left HLf.out (kl := kl))
                  have HVl2 := Lib.hid (may_next HVl.out HAT.out)
                  go_roundw
                  case rel => exact ⟨_, _, HRG2, HLf2, HVl2, HB2⟩
                  case measure => rw [HRG2.out.left_eq, HRG.out.left_eq]; exact HLT.out
                · have HR12 := Lib.hid (may_all HP4.out HP5.out HVl.out hl0)
                  clear hc0 hl0
                  go_ret
                  exact ⟨by rw [HR12.out]; rfl, HBr.out⟩
            refine AllReadyH.cons (o := ⟨none, _, _, _, _, _⟩) rfl (fun K hK => ?_) ?_
            · skip
              obtain ⟨xq, hrun, hGQ, hgr⟩ := GQ.put2 (by unfold maxLen; omega) b2
              go_simp
              refine hK.out _ _ ⟨hHeld.1.grown hgr (by omega), hHeld.2.1.grown hgr (by omega), grown_below hHeld.2.2 hgr (Nat.le_refl _) (fun q hq => by injection hq with hq; omega)⟩ (fun hHeld' => ?_)
              clear hK K hHeld hrun hgr
              replace GQ := hGQ
              clear hGQ
              have hHeld := hHeld'
              clear hHeld'
              generalize xq = x5 at hHeld GQ ⊢
              try simp only [Act.put, List.setIfInBounds_toArray, List.set_cons_zero, List.set_cons_succ]
              refine wpAnyH_ready (rs := [5]) (by kernel_rfl) (by simp) ?_
              refine AllReadyH.cons (o := ⟨none, _, _, _, _, _⟩) rfl (fun K hK => ?_) AllReadyH.nil
              obtain ⟨xq, hrun, hGQ, hgr⟩ := GQ.put1 (by unfold maxLen; omega) b1
              go_simp
              refine hK.out _ _ ⟨hHeld.1.grown hgr (by omega), hHeld.2.1.grown hgr (by omega), grown_below hHeld.2.2 hgr (Nat.le_refl _) (fun q hq => by injection hq with hq; omega)⟩ (fun hHeld' => ?_)
              clear hK K hHeld hrun hgr
              replace GQ := hGQ
              clear hGQ
              have hHeld := hHeld'
              clear hHeld'
              generalize xq = x6 at hHeld GQ ⊢
              try simp only [Act.put, List.setIfInBounds_toArray, List.set_cons_zero, List.set_cons_succ]
              refine wpAnyH_take (i := 22) (oi := ⟨some 42, _, _, _, _, _⟩) (v := ?_) rfl (by kernel_rfl) (by kernel_rfl) (by kernel_rfl) (fun _ _ _ h => h) (Or.inl ⟨by kernel_rfl, ?_⟩) hHeld ?_
              rotate_left
              focus (intro W hS; have c0_0 := (hS.1).at_ (j := 0) rfl; have c0_1 := (hS.1).at_ (j := 1) rfl; have c0_2 := (hS.1).at_ (j := 2) rfl; have c0_3 := (hS.1).at_ (j := 3) rfl; have c0_4 := (hS.1).at_ (j := 4) rfl; have c0_5 := (hS.1).at_ (j := 5) rfl; have c0_6 := (hS.1).at_ (j := 6) rfl; have c0_7 := (hS.1).at_ (j := 7) rfl; have c1_0 := (hS.2.1).at_ (j := 0) rfl; have c1_1 := (hS.2.1).at_ (j := 1) rfl; have c1_2 := (hS.2.1).at_ (j := 2) rfl; have c1_3 := (hS.2.1).at_ (j := 3) rfl; have c1_4 := (hS.2.1).at_ (j := 4) rfl; have c1_5 := (hS.2.1).at_ (j := 5) rfl; clear hS; first | (go_simp; done) | (go_simp; with_reducible rfl))
              try simp only [Act.put, List.setIfInBounds_toArray, List.set_cons_zero, List.set_cons_succ]
              refine wpAnyH_take (i := 23) (oi := ⟨some 10, _, _, _, _, _⟩) (v := ?_) rfl (by kernel_rfl) (by kernel_rfl) (by kernel_rfl) (fun _ _ _ h => h) (Or.inl ⟨by kernel_rfl, ?_⟩) hHeld ?_
              rotate_left
              focus (intro W hS; have c0_0 := (hS.1).at_ (j := 0) rfl; have c0_1 := (hS.1).at_ (j := 1) rfl; have c0_2 := (hS.1).at_ (j := 2) rfl; have c0_3 := (hS.1).at_ (j := 3) rfl; have c0_4 := (hS.1).at_ (j := 4) rfl; have c0_5 := (hS.1).at_ (j := 5) rfl; have c0_6 := (hS.1).at_ (j := 6) rfl; have c0_7 := (hS.1).at_ (j := 7) rfl; have c1_0 := (hS.2.1).at_ (j := 0) rfl; have c1_1 := (hS.2.1).at_ (j := 1) rfl; have c1_2 := (hS.2.1).at_ (j := 2) rfl; have c1_3 := (hS.2.1).at_ (j := 3) rfl; have c1_4 := (hS.2.1).at_ (j := 4) rfl; have c1_5 := (hS.2.1).at_ (j := 5) rfl; clear hS; first | (go_simp; done) | (go_simp; with_reducible rfl))
              try simp only [Act.put, List.setIfInBounds_toArray, List.set_cons_zero, List.set_cons_succ]
              refine wpAnyH_done (by kernel_rfl) ?_ _
              rename World => X
              have HBq := Lib.hid hHeld.2.2
              obtain ⟨D, h1, h2, h3, h4, h5⟩ := GQ
              have HO := Lib.hid h1
              have H3 := Lib.hid h3
              have HP4 := Lib.hid (h4 b1 rfl)
              have HP5 := Lib.hid (h5 b2 rfl)
              clear hHeld h1 h2 h3 h4 h5
              go_wp2_with (at_range; refine wpList_range_own _ rfl _ _ rfl _ _ keyed_str under_q _ gQ 2 D rfl HO.out ?_; intro w0 hrg0 hg0 hs0)
              go_frame
              have HRG0 := Lib.hid hrg0
              have HB0 := Lib.hid (grown_below HBq.out hg0 (Nat.le_refl _) (fun k h => by cases h))
              clear hrg0 hg0 hs0
              go_loopw [12] (fun v wr => ∃ (left : Lit → Bool) (cnt : Nat), Hid (wr.ranges Tryz.prog 9 (plainElem Tryz.prog 4) gQ X.heap.size 2 D left cnt) ∧ Hid (∀ kl, left kl = true → Maps.has D kl = true) ∧ Hid (∀ kl, Maps.has D kl = true → left kl = false → ∀ zd, D.atKey kl zd = .lit (.bool true)) ∧ Hid (Below w.heap.size w wr)) (fun _ wr => wr.rangeLeft gQ X.heap.size)
              case atStart => exact ⟨_, _, HRG0, Lib.hid (fun kl h => h), Lib.hid (fun kl h h2 => by rw [h] at h2; cases h2), HB0⟩
              case round =>
                obtain ⟨left, cnt, HRG, HLf, HVl, HBr⟩ := hrel
                go_wp2_with (at_next; refine wpList_next_ranges _ rfl _ rfl 9 keyed_str (plainElem Tryz.prog 4) Value.string Value.bool inv_str (fun v y h => (inv_bool v y h).imp fun c h => h.1) gQ X.heap.size 2 D left cnt rfl HRG.out ?_ ?_; intro hc0 hl0; rotate_left; intro s c kl y w2 cnt2 hkl hlk hR hat hrg2 hlt hgr hsz hen; have hy := may_elem hR; rw [hy] at hat; have HAT := Lib.hid hat; have HLK := Lib.hid hlk; have HRG2 := Lib.hid hrg2; have HLT := Lib.hid hlt; have HB2 := Lib.hid (grown_below HBr.out hgr (Nat.le_refl _) (fun q hq => by injection hq with hq; have := HBq.out.size; omega)); clear hkl hlk hR hat hrg2 hlt hgr hsz hy; cases c)
                · have HR12 := Lib.hid (may_none H3.out HP4.out HP5.out (HLf.out _ HLK.out) HAT.out)
                  go_ret
                  exact ⟨by rw [HR12.out]; rfl, HB2.out⟩
                · have HLf2 := Lib.hid (may_left HLf.out (kl := kl))
                  have HVl2 := Lib.hid (may_next HVl.out HAT.out)
                  go_roundw
                  case rel => exact ⟨_, _, HRG2, HLf2, HVl2, HB2⟩
                  case measure => rw [HRG2.out.left_eq, HRG.out.left_eq]; exact HLT.out
                · have HR12 := Lib.hid (may_all HP4.out HP5.out HVl.out hl0)
                  clear hc0 hl0
                  go_ret
                  exact ⟨by rw [HR12.out]; rfl, HBr.out⟩
            exact AllReadyH.nil
          exact AllReadyH.nil
        refine AllReadyH.cons (o := ⟨some 41, _, _, _, _, _⟩) rfl (fun K hK => ?_) ?_
        · skip
          go_simp
          refine Calls.mono (CM.out _ hHeld.2.2) ?_
          rintro e x3 ⟨rfl, hb1⟩
          refine hK.out _ _ ⟨hHeld.1.new hb1, hHeld.2.1.new hb1, below_trans hHeld.2.2 hb1 (Nat.le_refl _)⟩ (fun hHeld' => ?_)
          clear hK K hHeld hb1
          have hHeld := hHeld'
          clear hHeld'
          try simp only [Act.put, List.setIfInBounds_toArray, List.set_cons_zero, List.set_cons_succ]
          refine wpAnyH_ready (rs := [0]) (by kernel_rfl) (by simp) ?_
          refine AllReadyH.cons (o := ⟨some 22, _, _, _, _, _⟩) rfl (fun K hK => ?_) AllReadyH.nil
          go_simp
          have GQ := mapQ_made x3
          have hb1 := (Below.refl (x3).heap.size x3).alloc (Nat.le_refl _) (.map #[] 0)
          have M0Q : w.heap.size < (x3).heap.size := hHeld.1.lt
          have M1Q : w1.heap.size < (x3).heap.size := hHeld.2.1.lt
          generalize (x3).alloc (.map #[] 0) = xm at hb1 GQ ⊢
          generalize hg : (x3).heap.size = gQ at GQ M0Q M1Q ⊢
          have hb2 : Below (x3).heap.size x3 xm := by rw [hg]; rw [hg] at hb1; exact hb1
          clear hg hb1
          refine hK.out _ _ ⟨hHeld.1.new hb2, hHeld.2.1.new hb2, below_trans hHeld.2.2 hb2 (Nat.le_refl _)⟩ (fun hHeld' => ?_)
          clear hK K hHeld hb2
          have hHeld := hHeld'
          clear hHeld'
          generalize xm = x4 at hHeld GQ ⊢
          try simp only [Act.put, List.setIfInBounds_toArray, List.set_cons_zero, List.set_cons_succ]
          refine wpAnyH_ready (rs := [5, 21]) (by kernel_rfl) (by simp) ?_
          refine AllReadyH.cons (o := ⟨none, _, _, _, _, _⟩) rfl (fun K hK => ?_) ?_
          · skip
            obtain ⟨xq, hrun, hGQ, hgr⟩ := GQ.put1 (by unfold maxLen; omega) b1
            go_simp
            refine hK.out _ _ ⟨hHeld.1.grown hgr (by omega), hHeld.2.1.grown hgr (by omega), grown_below hHeld.2.2 hgr (Nat.le_refl _) (fun q hq => by injection hq with hq; omega)⟩ (fun hHeld' => ?_)
            clear hK K hHeld hrun hgr
            replace GQ := hGQ
            clear hGQ
            have hHeld := hHeld'
            clear hHeld'
            generalize xq = x5 at hHeld GQ ⊢
            try simp only [Act.put, List.setIfInBounds_toArray, List.set_cons_zero, List.set_cons_succ]
            refine wpAnyH_ready (rs := [21]) (by kernel_rfl) (by simp) ?_
            refine AllReadyH.cons (o := ⟨none, _, _, _, _, _⟩) rfl (fun K hK => ?_) AllReadyH.nil
            obtain ⟨xq, hrun, hGQ, hgr⟩ := GQ.put2 (by unfold maxLen; omega) b2
            go_simp
            refine hK.out _ _ ⟨hHeld.1.grown hgr (by omega), hHeld.2.1.grown hgr (by omega), grown_below hHeld.2.2 hgr (Nat.le_refl _) (fun q hq => by injection hq with hq; omega)⟩ (fun hHeld' => ?_)
            clear hK K hHeld hrun hgr
            replace GQ := hGQ
            clear hGQ
            have hHeld := hHeld'
            clear hHeld'
            generalize xq = x6 at hHeld GQ ⊢
            try simp only [Act.put, List.setIfInBounds_toArray, List.set_cons_zero, List.set_cons_succ]
            refine wpAnyH_take (i := 22) (oi := ⟨some 42, _, _, _, _, _⟩) (v := ?_) rfl (by kernel_rfl) (by kernel_rfl) (by kernel_rfl) (fun _ _ _ h => h) (Or.inl ⟨by kernel_rfl, ?_⟩) hHeld ?_
            rotate_left
            focus (intro W hS; have c0_0 := (hS.1).at_ (j := 0) rfl; have c0_1 := (hS.1).at_ (j := 1) rfl; have c0_2 := (hS.1).at_ (j := 2) rfl; have c0_3 := (hS.1).at_ (j := 3) rfl; have c0_4 := (hS.1).at_ (j := 4) rfl; have c0_5 := (hS.1).at_ (j := 5) rfl; have c0_6 := (hS.1).at_ (j := 6) rfl; have c0_7 := (hS.1).at_ (j := 7) rfl; have c1_0 := (hS.2.1).at_ (j := 0) rfl; have c1_1 := (hS.2.1).at_ (j := 1) rfl; have c1_2 := (hS.2.1).at_ (j := 2) rfl; have c1_3 := (hS.2.1).at_ (j := 3) rfl; have c1_4 := (hS.2.1).at_ (j := 4) rfl; have c1_5 := (hS.2.1).at_ (j := 5) rfl; clear hS; first | (go_simp; done) | (go_simp; with_reducible rfl))
            try simp only [Act.put, List.setIfInBounds_toArray, List.set_cons_zero, List.set_cons_succ]
            refine wpAnyH_take (i := 23) (oi := ⟨some 10, _, _, _, _, _⟩) (v := ?_) rfl (by kernel_rfl) (by kernel_rfl) (by kernel_rfl) (fun _ _ _ h => h) (Or.inl ⟨by kernel_rfl, ?_⟩) hHeld ?_
            rotate_left
            focus (intro W hS; have c0_0 := (hS.1).at_ (j := 0) rfl; have c0_1 := (hS.1).at_ (j := 1) rfl; have c0_2 := (hS.1).at_ (j := 2) rfl; have c0_3 := (hS.1).at_ (j := 3) rfl; have c0_4 := (hS.1).at_ (j := 4) rfl; have c0_5 := (hS.1).at_ (j := 5) rfl; have c0_6 := (hS.1).at_ (j := 6) rfl; have c0_7 := (hS.1).at_ (j := 7) rfl; have c1_0 := (hS.2.1).at_ (j := 0) rfl; have c1_1 := (hS.2.1).at_ (j := 1) rfl; have c1_2 := (hS.2.1).at_ (j := 2) rfl; have c1_3 := (hS.2.1).at_ (j := 3) rfl; have c1_4 := (hS.2.1).at_ (j := 4) rfl; have c1_5 := (hS.2.1).at_ (j := 5) rfl; clear hS; first | (go_simp; done) | (go_simp; with_reducible rfl))
            try simp only [Act.put, List.setIfInBounds_toArray, List.set_cons_zero, List.set_cons_succ]
            refine wpAnyH_done (by kernel_rfl) ?_ _
            rename World => X
            have HBq := Lib.hid hHeld.2.2
            obtain ⟨D, h1, h2, h3, h4, h5⟩ := GQ
            have HO := Lib.hid h1
            have H3 := Lib.hid h3
            have HP4 := Lib.hid (h4 b1 rfl)
            have HP5 := Lib.hid (h5 b2 rfl)
            clear hHeld h1 h2 h3 h4 h5
            go_wp2_with (at_range; refine wpList_range_own _ rfl _ _ rfl _ _ keyed_str under_q _ gQ 2 D rfl HO.out ?_; intro w0 hrg0 hg0 hs0)
            go_frame
            have HRG0 := Lib.hid hrg0
            have HB0 := Lib.hid (grown_below HBq.out hg0 (Nat.le_refl _) (fun k h => by cases h))
            clear hrg0 hg0 hs0
            go_loopw [12] (fun v wr => ∃ (left : Lit → Bool) (cnt : Nat), Hid (wr.ranges Tryz.prog 9 (plainElem Tryz.prog 4) gQ X.heap.size 2 D left cnt) ∧ Hid (∀ kl, left kl = true → Maps.has D kl = true) ∧ Hid (∀ kl, Maps.has D kl = true → left kl = false → ∀ zd, D.atKey kl zd = .lit (.bool true)) ∧ Hid (Below w.heap.size w wr)) (fun _ wr => wr.rangeLeft gQ X.heap.size)
            case atStart => exact ⟨_, _, HRG0, Lib.hid (fun kl h => h), Lib.hid (fun kl h h2 => by rw [h] at h2; cases h2), HB0⟩
            case round =>
              obtain ⟨left, cnt, HRG, HLf, HVl, HBr⟩ := hrel
              go_wp2_with (at_next; refine wpList_next_ranges _ rfl _ rfl 9 keyed_str (plainElem Tryz.prog 4) Value.string Value.bool inv_str (fun v y h => (inv_bool v y h).imp fun c h => h.1) gQ X.heap.size 2 D left cnt rfl HRG.out ?_ ?_; intro hc0 hl0; rotate_left; intro s c kl y w2 cnt2 hkl hlk hR hat hrg2 hlt hgr hsz hen; have hy := may_elem hR; rw [hy] at hat; have HAT := Lib.hid hat; have HLK := Lib.hid hlk; have HRG2 := Lib.hid hrg2; have HLT := Lib.hid hlt; have HB2 := Lib.hid (grown_below HBr.out hgr (Nat.le_refl _) (fun q hq => by injection hq with hq; have := HBq.out.size; omega)); clear hkl hlk hR hat hrg2 hlt hgr hsz hy; cases c)
              · have HR12 := Lib.hid (may_none H3.out HP4.out HP5.out (HLf.out _ HLK.out) HAT.out)
                go_ret
                exact ⟨by rw [HR12.out]; rfl, HB2.out⟩
              · have HLf2 := Lib.hid (may_left HLf.out (kl := kl))
                have HVl2 := Lib.hid (may_next HVl.out HAT.out)
                go_roundw
                case rel => exact ⟨_, _, HRG2, HLf2, HVl2, HB2⟩
                case measure => rw [HRG2.out.left_eq, HRG.out.left_eq]; exact HLT.out
              · have HR12 := Lib.hid (may_all HP4.out HP5.out HVl.out hl0)
                clear hc0 hl0
                go_ret
                exact ⟨by rw [HR12.out]; rfl, HBr.out⟩
          refine AllReadyH.cons (o := ⟨none, _, _, _, _, _⟩) rfl (fun K hK => ?_) ?_
          · skip
            obtain ⟨xq, hrun, hGQ, hgr⟩ := GQ.put2 (by unfold maxLen; omega) b2
            go_simp
            refine hK.out _ _ ⟨hHeld.1.grown hgr (by omega), hHeld.2.1.grown hgr (by omega), grown_below hHeld.2.2 hgr (Nat.le_refl _) (fun q hq => by injection hq with hq; omega)⟩ (fun hHeld' => ?_)
            clear hK K hHeld hrun hgr
            replace GQ := hGQ
            clear hGQ
            have hHeld := hHeld'
            clear hHeld'
            generalize xq = x5 at hHeld GQ ⊢
            try simp only [Act.put, List.setIfInBounds_toArray, List.set_cons_zero, List.set_cons_succ]
            refine wpAnyH_ready (rs := [5]) (by kernel_rfl) (by simp) ?_
            refine AllReadyH.cons (o := ⟨none, _, _, _, _, _⟩) rfl (fun K hK => ?_) AllReadyH.nil
            obtain ⟨xq, hrun, hGQ, hgr⟩ := GQ.put1 (by unfold maxLen; omega) b1
            go_simp
            refine hK.out _ _ ⟨hHeld.1.grown hgr (by omega), hHeld.2.1.grown hgr (by omega), grown_below hHeld.2.2 hgr (Nat.le_refl _) (fun q hq => by injection hq with hq; omega)⟩ (fun hHeld' => ?_)
            clear hK K hHeld hrun hgr
            replace GQ := hGQ
            clear hGQ
            have hHeld := hHeld'
            clear hHeld'
            generalize xq = x6 at hHeld GQ ⊢
            try simp only [Act.put, List.setIfInBounds_toArray, List.set_cons_zero, List.set_cons_succ]
            refine wpAnyH_take (i := 22) (oi := ⟨some 42, _, _, _, _, _⟩) (v := ?_) rfl (by kernel_rfl) (by kernel_rfl) (by kernel_rfl) (fun _ _ _ h => h) (Or.inl ⟨by kernel_rfl, ?_⟩) hHeld ?_
            rotate_left
            focus (intro W hS; have c0_0 := (hS.1).at_ (j := 0) rfl; have c0_1 := (hS.1).at_ (j := 1) rfl; have c0_2 := (hS.1).at_ (j := 2) rfl; have c0_3 := (hS.1).at_ (j := 3) rfl; have c0_4 := (hS.1).at_ (j := 4) rfl; have c0_5 := (hS.1).at_ (j := 5) rfl; have c0_6 := (hS.1).at_ (j := 6) rfl; have c0_7 := (hS.1).at_ (j := 7) rfl; have c1_0 := (hS.2.1).at_ (j := 0) rfl; have c1_1 := (hS.2.1).at_ (j := 1) rfl; have c1_2 := (hS.2.1).at_ (j := 2) rfl; have c1_3 := (hS.2.1).at_ (j := 3) rfl; have c1_4 := (hS.2.1).at_ (j := 4) rfl; have c1_5 := (hS.2.1).at_ (j := 5) rfl; clear hS; first | (go_simp; done) | (go_simp; with_reducible rfl))
            try simp only [Act.put, List.setIfInBounds_toArray, List.set_cons_zero, List.set_cons_succ]
            refine wpAnyH_take (i := 23) (oi := ⟨some 10, _, _, _, _, _⟩) (v := ?_) rfl (by kernel_rfl) (by kernel_rfl) (by kernel_rfl) (fun _ _ _ h => h) (Or.inl ⟨by kernel_rfl, ?_⟩) hHeld ?_
            rotate_left
            focus (intro W hS; have c0_0 := (hS.1).at_ (j := 0) rfl; have c0_1 := (hS.1).at_ (j := 1) rfl; have c0_2 := (hS.1).at_ (j := 2) rfl; have c0_3 := (hS.1).at_ (j := 3) rfl; have c0_4 := (hS.1).at_ (j := 4) rfl; have c0_5 := (hS.1).at_ (j := 5) rfl; have c0_6 := (hS.1).at_ (j := 6) rfl; have c0_7 := (hS.1).at_ (j := 7) rfl; have c1_0 := (hS.2.1).at_ (j := 0) rfl; have c1_1 := (hS.2.1).at_ (j := 1) rfl; have c1_2 := (hS.2.1).at_ (j := 2) rfl; have c1_3 := (hS.2.1).at_ (j := 3) rfl; have c1_4 := (hS.2.1).at_ (j := 4) rfl; have c1_5 := (hS.2.1).at_ (j := 5) rfl; clear hS; first | (go_simp; done) | (go_simp; with_reducible rfl))
            try simp only [Act.put, List.setIfInBounds_toArray, List.set_cons_zero, List.set_cons_succ]
            refine wpAnyH_done (by kernel_rfl) ?_ _
            rename World => X
            have HBq := Lib.hid hHeld.2.2
            obtain ⟨D, h1, h2, h3, h4, h5⟩ := GQ
            have HO := Lib.hid h1
            have H3 := Lib.hid h3
            have HP4 := Lib.hid (h4 b1 rfl)
            have HP5 := Lib.hid (h5 b2 rfl)
            clear hHeld h1 h2 h3 h4 h5
            go_wp2_with (at_range; refine wpList_range_own _ rfl _ _ rfl _ _ keyed_str under_q _ gQ 2 D rfl HO.out ?_; intro w0 hrg0 hg0 hs0)
            go_frame
            have HRG0 := Lib.hid hrg0
            have HB0 := Lib.hid (grown_below HBq.out hg0 (Nat.le_refl _) (fun k h => by cases h))
            clear hrg0 hg0 hs0
            go_loopw [12] (fun v wr => ∃ (left : Lit → Bool) (cnt : Nat), Hid (wr.ranges Tryz.prog 9 (plainElem Tryz.prog 4) gQ X.heap.size 2 D left cnt) ∧ Hid (∀ kl, left kl = true → Maps.has D kl = true) ∧ Hid (∀ kl, Maps.has D kl = true → left kl = false → ∀ zd, D.atKey kl zd = .lit (.bool true)) ∧ Hid (Below w.heap.size w wr)) (fun _ wr => wr.rangeLeft gQ X.heap.size)
            case atStart => exact ⟨_, _, HRG0, Lib.hid (fun kl h => h), Lib.hid (fun kl h h2 => by rw [h] at h2; cases h2), HB0⟩
            case round =>
              obtain ⟨left, cnt, HRG, HLf, HVl, HBr⟩ := hrel
              go_wp2_with (at_next; refine wpList_next_ranges _ rfl _ rfl 9 keyed_str (plainElem Tryz.prog 4) Value.string Value.bool inv_str (fun v y h => (inv_bool v y h).imp fun c h => h.1) gQ X.heap.size 2 D left cnt rfl HRG.out ?_ ?_; intro hc0 hl0; rotate_left; intro s c kl y w2 cnt2 hkl hlk hR hat hrg2 hlt hgr hsz hen; have hy := may_elem hR; rw [hy] at hat; have HAT := Lib.hid hat; have HLK := Lib.hid hlk; have HRG2 := Lib.hid hrg2; have HLT := Lib.hid hlt; have HB2 := Lib.hid (grown_below HBr.out hgr (Nat.le_refl _) (fun q hq => by injection hq with hq; have := HBq.out.size; omega)); clear hkl hlk hR hat hrg2 hlt hgr hsz hy; cases c)
              · have HR12 := Lib.hid (may_none H3.out HP4.out HP5.out (HLf.out _ HLK.out) HAT.out)
                go_ret
                exact ⟨by rw [HR12.out]; rfl, HB2.out⟩
              · have HLf2 := Lib.hid (may_left HLf.out (kl := kl))
                have HVl2 := Lib.hid (may_next HVl.out HAT.out)
                go_roundw
                case rel => exact ⟨_, _, HRG2, HLf2, HVl2, HB2⟩
                case measure => rw [HRG2.out.left_eq, HRG.out.left_eq]; exact HLT.out
              · have HR12 := Lib.hid (may_all HP4.out HP5.out HVl.out hl0)
                clear hc0 hl0
                go_ret
                exact ⟨by rw [HR12.out]; rfl, HBr.out⟩
          exact AllReadyH.nil
        exact AllReadyH.nil
      exact AllReadyH.nil
    exact AllReadyH.nil

end Go.Proofs.YtodlahmnjadgcaaGreat
