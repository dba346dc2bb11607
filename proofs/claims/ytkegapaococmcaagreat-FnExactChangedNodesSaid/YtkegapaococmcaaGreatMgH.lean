/- Merged: HasT, ChN, ChNS. -/
import Derived.Test.YtkegapaococmcaaGreatMgB
import Derived.Test.YtkegapaococmcaaGreatIn
import Derived.Deep.LoopGhost
import Derived.Test.YtkegapaococmcaaGreatMgG
import Derived.Deep.RegionHeld3
namespace Go.Proofs.YtkegapaococmcaaGreat
open Go Go.ChangeShapes Go.WideShapes Go.ChangeAt Go.RowKit Go.Lib
set_option linter.unusedVariables false
set_option linter.unusedSimpArgs false
set_option maxRecDepth 100000
set_option maxHeartbeats 4000000
/-- The tab of this number. -/
def mTabAt (m : MBrowser) (a : Int) : Option MTab := if 0 ≤ a ∧ a < (m.l1.length : Int) then m.l1[a.toNat]? else none
theorem mTabAt_no {x : DBrowser} {a : Int} (h : inR a 0 ((x.l1.length : Int) - 1) = false) : mTabAt x.dat a = none := by
  unfold mTabAt
  have hl : x.dat.l1.length = x.l1.length := by simp [DBrowser.dat]
  rw [hl, if_neg (fun q => by rw [inR_true.2 ⟨q.1, by omega⟩] at h; cases h)]
theorem mTabAt_yes {x : DBrowser} {a : Int} (h : inR a 0 ((x.l1.length : Int) - 1) = true) : ∃ (k : Nat) (t : DTab), a = (k : Int) ∧ k < x.l1.length ∧ x.l1[k]? = some t ∧ mTabAt x.dat a = some t.dat := by
  have h2 := inR_true.1 h
  have hl : x.dat.l1.length = x.l1.length := by simp [DBrowser.dat]
  obtain ⟨k, rfl⟩ : ∃ k : Nat, a = (k : Int) := ⟨a.toNat, by omega⟩
  have hk : k < x.l1.length := by omega
  refine ⟨k, _, rfl, hk, List.getElem?_eq_getElem hk, ?_⟩
  unfold mTabAt
  rw [hl, if_pos ⟨by omega, by omega⟩]
  simp only [Int.toNat_natCast, DBrowser.dat, List.getElem?_map, List.getElem?_eq_getElem hk]; rfl
set_option maxHeartbeats 8000000 in
theorem impl_hasTab (x : DBrowser) (m : MBrowser) (lo hi : Nat) (a : Int) (w : World) (hd : x.dat = m) (hz : m.sz ≤ 1048576) (hok : m.ok) (hr : x.rd w lo hi) :
    Calls Tryz.prog 50 #[.agg #[.int .i64 x.p0, .slice x.A1 x.n1 x.c1, .slice x.A2 x.n2 x.c2, .slice x.A3 x.n3 x.c3, .slice x.A4 x.n4 x.c4, .slice x.A5 x.n5 x.c5, .slice x.A6 x.n6 x.c6, .int .i64 x.p7], .int .i64 a] w (Says (.bool (inR a 0 ((m.l1.length : Int) - 1))) w) := by
  subst hd
  have hzs := hz
  rw [hr.sz] at hz
  have hz' : x.n1 + x.n2 + x.n3 + x.n4 + x.n5 + x.n6 ≤ 1048576 := by omega
  have hl : (x.dat.l1.length : Int) = x.n1 := by have := hr.1.len; simp [DBrowser.dat]; omega
  rw [hl]
  have C0 := Lib.hid (fun W => says_of_same (impl_in a 0 ((x.n1 : Int) - 1) W))
  generalize inR a 0 ((x.n1 : Int) - 1) = r at C0 ⊢
  have hn1 : x.n1 ≤ 1048576 := by omega
  clear hr hz hzs hok hl
  go_enter Tryz.func50, Tryz.ntmps50
  go_wp2_with fail
  refine (C0.out _).mono ?_
  rintro e w1 ⟨rfl, hb1⟩
  have HB1 := Lib.hid (below_trans ((Below.refl w.heap.size w).alloc (Nat.le_refl _) _) hb1 (by simp))
  clear hb1
  go_wp2_with fail
  go_ret
  exact ⟨rfl, HB1.out⟩

end Go.Proofs.YtkegapaococmcaaGreat
namespace Go.Proofs.YtkegapaococmcaaGreat
open Go Go.ChangeShapes Go.WideShapes Go.ChangeAt Go.RowKit Go.Lib
set_option linter.unusedVariables false
set_option linter.unusedSimpArgs false
set_option maxRecDepth 100000
set_option maxHeartbeats 4000000
def chB (x : TNode) : Bool := x.f4 != 0
def mChN (m : MBrowser) (a : Int) : List Int := match mTabAt m a with | some t => mAsd (mFm chB TNode.f0 (mRun t.l1 t.l2)) | none => []
theorem mChN_len (x : DBrowser) (a : Int) (hz : x.dat.sz ≤ 1048576) (hok : x.dat.ok) : (mChN x.dat a).length ≤ 1048576 := by
  cases hin : inR a 0 ((x.l1.length : Int) - 1) with
  | false => unfold mChN; rw [mTabAt_no hin]; simp
  | true =>
    obtain ⟨k, t, rfl, hk, hkt, hat⟩ := mTabAt_yes hin
    unfold mChN
    rw [hat]
    have htz := MTab.szs_mem (x.l1.map DTab.dat) k t.dat (by rw [List.getElem?_map, hkt]; rfl)
    have hto : t.dat.ok := hok.2.1 t.dat (List.mem_map.2 ⟨t, List.mem_of_getElem? hkt, rfl⟩)
    have hl : t.l1.length ≤ 1048576 := by
      simp only [MBrowser.sz, DBrowser.dat, MTab.sz, DTab.dat] at hz htz
      omega
    exact Nat.le_trans (mAsd_len _) (Nat.le_trans fm_len (run_le t.dat.l2 hto.2.1 (by decide) hl))
theorem fr_nilC {w : World} {lo hi size : Nat} {E : TypeId} {c : Nat} {A : Option Addr} : Fr w lo hi E size A 0 c [] := ⟨by simp, fun h => absurd h (by omega)⟩
set_option maxHeartbeats 4000000 in
theorem clo_ChN (x : TNode) (w : World) : Calls Tryz.prog 53 #[.agg #[.int .i64 x.f0, .int .i64 x.f1, .int .i64 x.f2, .int .i64 x.f3, .int .i64 x.f4]] w (Says (.bool (chB x)) w) := by
  unfold chB
  go_enter Tryz.func53, Tryz.ntmps53
  go_wp2_with fail
  go_ret
  exact ⟨rfl, by repeat (first | exact Below.refl _ _ | (refine Below.alloc ?_ (by simp <;> omega) _))⟩
set_option maxHeartbeats 8000000 in
theorem impl_ChangedNodes (x : DBrowser) (m : MBrowser) (lo hi : Nat) (a : Int) (w : World) (hd : x.dat = m) (hz : m.sz ≤ 1048576) (hok : m.ok) (hr : x.rd w lo hi) :
    Calls Tryz.prog 13 #[.agg #[.int .i64 x.p0, .slice x.A1 x.n1 x.c1, .slice x.A2 x.n2 x.c2, .slice x.A3 x.n3 x.c3, .slice x.A4 x.n4 x.c4, .slice x.A5 x.n5 x.c5, .slice x.A6 x.n6 x.c6, .int .i64 x.p7], .int .i64 a] w (Makes 3 1 (mChN m a).length (i64s (mChN m a)) w) := by
  have CH := Lib.hid (fun W h => impl_hasTab x m lo hi a W hd hz hok h)
  subst hd
  have hl : x.dat.l1.length = x.l1.length := by simp [DBrowser.dat]
  rw [hl] at CH
  have HR := Lib.hid hr
  cases hin : inR a 0 ((x.l1.length : Int) - 1) with
  | false =>
    rw [hin] at CH
    have e1 : mChN x.dat a = [] := by unfold mChN; rw [mTabAt_no hin]
    rw [e1]
    clear hin hr hz hok hl e1
    go_enter Tryz.func13, Tryz.ntmps13
    go_wp2_with fail
    refine (CH.out _ (HR.out.alloc _)).mono ?_
    rintro e w1 ⟨rfl, hb1⟩
    have HB1 := Lib.hid (below_trans ((Below.refl w.heap.size w).alloc (Nat.le_refl _) _) hb1 (by simp))
    clear hb1
    go_wp2_with fail
    go_ret
    exact ⟨_, _, rfl, fr_nilC, HB1.out.alloc HB1.out.size _⟩
  | true =>
    rw [hin] at CH
    obtain ⟨k, t, rfl, hk, hkt, hat⟩ := mTabAt_yes hin
    have e1 : mChN x.dat (k : Int) = mAsd (mFm chB TNode.f0 (mRun t.l1 t.l2)) := by unfold mChN; rw [hat]; rfl
    rw [e1]
    have hln := hr.1.len
    have hkn : k < x.n1 := by omega
    have hn1 : x.n1 ≤ 1048576 := by rw [hr.sz] at hz; omega
    have htz := MTab.szs_mem (x.l1.map DTab.dat) k t.dat (by rw [List.getElem?_map, hkt]; rfl)
    have htz2 : t.dat.sz ≤ 1048575 := by rw [hr.sz] at hz; omega
    have hto : t.dat.ok := hok.2.1 t.dat (List.mem_map.2 ⟨t, List.mem_of_getElem? hkt, rfl⟩)
    have HX := (hr.old).1.at_ hkt
    have hts := DTab.rd_sz HX
    have hls := DTab.rd_lens HX
    have hM : (mRun t.l1 t.l2).length ≤ 1048576 := run_le t.l2 (l := t.l1) hto.2.1 (by decide) (by omega)
    have CT := fun W (hb : Below w.heap.size w W) => impl_TabDocument t.s0 t.l1 t.A1 t.n1 t.c1 0 w.heap.size t.l2 t.A2 t.n2 t.c2 0 w.heap.size t.l3 t.A3 t.n3 t.c3 0 w.heap.size t.p4 W (Lib.hid hto.1) (by omega) (HX.1.2.new hb) (Lib.hid hto.2.1) (by omega) (HX.2.1.2.new hb) (Lib.hid hto.2.2.1) (by omega) (HX.2.2.2.new hb) (Lib.hid hto.2.2.2.1)
    generalize mRun t.l1 t.l2 = M at CT hM ⊢
    obtain ⟨b, off, t2, hA, hlo, hhi, hkt2, hcc⟩ := rd_elem DTab.len (hr.old).1.2.1 hln hkn
    obtain rfl : t = t2 := Option.some.inj (hkt.symm.trans hkt2)
    have HCC := Lib.hid (fun (W : World) (hb : Below w.heap.size w W) (j : Nat) (u : Value) (hu : t.cells[j]? = some u) => (World.cell?_of_block (a := ⟨b, off + k * 6 + j, none⟩) (hb.block b hhi)).trans (hcc j u hu))
    have KB0 := Lib.hid (show BoxAt (w.alloc (.cells #[.int .i64 x.p0, .slice x.A1 x.n1 x.c1, .slice x.A2 x.n2 x.c2, .slice x.A3 x.n3 x.c3, .slice x.A4 x.n4 x.c4, .slice x.A5 x.n5 x.c5, .slice x.A6 x.n6 x.c6, .int .i64 x.p7] 40)) w.heap.size 40 #[.int .i64 x.p0, .slice (some ⟨b, off, none⟩) x.n1 x.c1, .slice x.A2 x.n2 x.c2, .slice x.A3 x.n3 x.c3, .slice x.A4 x.n4 x.c4, .slice x.A5 x.n5 x.c5, .slice x.A6 x.n6 x.c6, .int .i64 x.p7] by rw [← hA]; exact box_new w 40 #[.int .i64 x.p0, .slice x.A1 x.n1 x.c1, .slice x.A2 x.n2 x.c2, .slice x.A3 x.n3 x.c3, .slice x.A4 x.n4 x.c4, .slice x.A5 x.n5 x.c5, .slice x.A6 x.n6 x.c6, .int .i64 x.p7])
    replace hA := Lib.hid hA
    have CK := fun A c lo hi bc W (h : Rd W lo hi 5 A M.length (cNode M)) (hb : BoxAt W bc 97 #[.func (.func 53) #[] #[]]) => Go.Proofs.YtkegapaococmcaaGreat.kChN.keep chB #[] M A M.length c lo hi bc W hM h hb (fun W z _ _ => clo_ChN z W)
    have hfm : mFm chB TNode.f0 M = (M.filter fun x => chB x).map fun x => x.f0 := rfl
    rw [hfm]
    have hL : (M.filter fun x => chB x).length ≤ 1048576 := Nat.le_trans (List.length_filter_le _ _) hM
    generalize (M.filter fun x => chB x) = L at CK hL ⊢
    have CM := fun A c lo hi W h => map_node L A L.length c lo hi W hL h
    have CA := fun A c lo hi W h => ascending_any (L.map fun x => x.f0) A L.length c lo hi W (by omega) h
    generalize (L.map fun x => x.f0) = I at CM CA ⊢
    generalize mAsd I = J at CA ⊢
    generalize M.length = q at CT CK
    generalize L.length = r at CK CM CA
    generalize J.length = s at CA ⊢
    replace CT := Lib.hid CT
    replace CK := Lib.hid CK
    replace CM := Lib.hid CM
    replace CA := Lib.hid CA
    clear hin hr hz hok hl e1 hat hkt hkt2 hcc htz htz2 hto hM hL hfm hts hls HX hln hlo hhi hk
    go_enter Tryz.func13, Tryz.ntmps13
    go_wp2_with fail
    refine (CH.out _ (HR.out.alloc _)).mono ?_
    rintro e w1 ⟨rfl, hb1⟩
    have HB1 := Lib.hid (below_trans ((Below.refl w.heap.size w).alloc (Nat.le_refl _) _) hb1 (by simp))
    have KB1 := Lib.hid (KB0.out.new hb1)
    clear hb1
    have k1 := KB1.out.at_ (j := 1) rfl
    have c0 : w1.cell? ⟨b, off + k * 6, none⟩ = some (.int .i64 t.s0.f0) := HCC.out w1 HB1.out 0 _ rfl
    have c1 : w1.cell? ⟨b, off + k * 6 + 1, none⟩ = some (.int .i64 t.s0.f1) := HCC.out w1 HB1.out 1 _ rfl
    have c2 : w1.cell? ⟨b, off + k * 6 + 2, none⟩ = some (.slice t.A1 t.n1 t.c1) := HCC.out w1 HB1.out 2 _ rfl
    have c3 : w1.cell? ⟨b, off + k * 6 + 3, none⟩ = some (.slice t.A2 t.n2 t.c2) := HCC.out w1 HB1.out 3 _ rfl
    have c4 : w1.cell? ⟨b, off + k * 6 + 4, none⟩ = some (.slice t.A3 t.n3 t.c3) := HCC.out w1 HB1.out 4 _ rfl
    have c5 : w1.cell? ⟨b, off + k * 6 + 5, none⟩ = some (.int .i64 t.p4) := HCC.out w1 HB1.out 5 _ rfl
    go_wp2_with fail
    refine (CT.out _ HB1.out).mono ?_
    rintro e w2 ⟨AD, cD, rfl, hF2, hb2⟩
    have GL := Lib.hid (box_new w2 97 #[.func (.func 53) #[] #[]])
    have HD := Lib.hid (hF2.rd.alloc (.cells #[.func (.func 53) #[] #[]] 97))
    have HB5 := Lib.hid ((below_trans HB1.out hb2 (Nat.le_refl _)).alloc (below_trans HB1.out hb2 (Nat.le_refl _)).size (.cells #[.func (.func 53) #[] #[]] 97))
    clear hF2 hb2 k1 c0 c1 c2 c3 c4 c5
    go_wp2_with fail
    refine (CK.out _ _ _ _ _ _ HD.out GL.out).mono ?_
    rintro e w5 ⟨VK, rfl, GK, hb5⟩
    obtain ⟨AK, cK, rfl, GF⟩ := fr_of_own GK
    have HF1 := Lib.hid GF.rd
    have HB2 := Lib.hid (below_trans HB5.out hb5 (Nat.le_refl _))
    clear GF GK hb5
    go_wp2_with fail
    refine (CM.out _ _ _ _ _ HF1.out).mono ?_
    rintro e w3 ⟨A3, c3, rfl, hF3, hb3⟩
    have HF3 := Lib.hid (hF3.mono HB2.out.size (Nat.le_refl _))
    have HB3 := Lib.hid (below_trans HB2.out hb3 (Nat.le_refl _))
    clear hF3 hb3
    go_wp2_with fail
    refine (CA.out _ _ _ _ _ HF3.out).mono ?_
    rintro e w4 ⟨rfl, h1, h2⟩
    have HF4 := Lib.hid (h1.mono (Nat.le_refl _) h2.size)
    have HB4 := Lib.hid (HB3.out.trans (h2.below (.inl (Nat.le_refl _)) HB3.out.size))
    clear h1 h2
    go_wp2_with fail
    go_ret
    exact ⟨_, _, rfl, HF4.out, HB4.out⟩

end Go.Proofs.YtkegapaococmcaaGreat
namespace Go.Proofs.YtkegapaococmcaaGreat
open Go Go.ChangeShapes Go.WideShapes Go.ChangeAt Go.RowKit Go.Lib
set_option linter.unusedVariables false
set_option linter.unusedSimpArgs false
set_option maxRecDepth 100000
set_option maxHeartbeats 4000000
set_option maxHeartbeats 16000000 in
theorem spec_ChangedNodes (x : DBrowser) (m : MBrowser) (lo hi : Nat) (a : Int) (w : World) (hd : x.dat = m) (hz : m.sz ≤ 1048576) (hok : m.ok) (hr : x.rd w lo hi) :
    Calls Tryz.prog 11 #[.agg #[.int .i64 x.p0, .slice x.A1 x.n1 x.c1, .slice x.A2 x.n2 x.c2, .slice x.A3 x.n3 x.c3, .slice x.A4 x.n4 x.c4, .slice x.A5 x.n5 x.c5, .slice x.A6 x.n6 x.c6, .int .i64 x.p7], .int .i64 a] w (Makes 3 1 (mChN m a).length (i64s (mChN m a)) w) := by
  subst hd
  have hl : (x.n1 : Int) = (x.l1.length : Int) := by have := hr.1.len; omega
  have CH := Lib.hid (fun W => says_of_same (spec_in a 0 ((x.n1 : Int) - 1) W))
  have HR := Lib.hid hr
  have hn1' : x.n1 ≤ 1048576 := by rw [hr.sz] at hz; omega
  have HB0 := Lib.hid (((Below.refl w.heap.size w).alloc (Nat.le_refl _) (.cells #[.int .i64 x.p0, .slice x.A1 x.n1 x.c1, .slice x.A2 x.n2 x.c2, .slice x.A3 x.n3 x.c3, .slice x.A4 x.n4 x.c4, .slice x.A5 x.n5 x.c5, .slice x.A6 x.n6 x.c6, .int .i64 x.p7] 40)).alloc (by simp) (.cells #[] 3))
  cases hin : inR a 0 ((x.l1.length : Int) - 1) with
  | false =>
    rw [hl, hin] at CH
    have e1 : mChN x.dat a = [] := by unfold mChN; rw [mTabAt_no hin]
    rw [e1]
    rw [← hl] at CH
    clear hin hr hz hok hl e1
    go_enter Tryz.func11, Tryz.ntmps11
    go_wp2_with fail
    refine (CH.out _).mono ?_
    rintro e w1 ⟨rfl, hb1⟩
    have HB1 := Lib.hid (below_trans HB0.out hb1 (by simp))
    clear hb1
    go_wp2_with fail
    go_ret
    exact ⟨_, _, rfl, fr_nilC, HB1.out⟩
  | true =>
    rw [hl, hin, ← hl] at CH
    obtain ⟨k, t, rfl, hk, hkt, hat⟩ := mTabAt_yes hin
    have e1 : mChN x.dat (k : Int) = mAsd (mFm chB TNode.f0 (mRun t.l1 t.l2)) := by unfold mChN; rw [hat]; rfl
    rw [e1]
    have hln := hr.1.len
    have hkn : k < x.n1 := by omega
    have hn1 : x.n1 ≤ 1048576 := by rw [hr.sz] at hz; omega
    have htz := MTab.szs_mem (x.l1.map DTab.dat) k t.dat (by rw [List.getElem?_map, hkt]; rfl)
    have htz2 : t.dat.sz ≤ 1048575 := by rw [hr.sz] at hz; omega
    have hto : t.dat.ok := hok.2.1 t.dat (List.mem_map.2 ⟨t, List.mem_of_getElem? hkt, rfl⟩)
    have HX := (hr.old).1.at_ hkt
    have hts := DTab.rd_sz HX
    have hls := DTab.rd_lens HX
    have hM : (mRun t.l1 t.l2).length ≤ 1048576 := run_le t.l2 (l := t.l1) hto.2.1 (by decide) (by omega)
    have CT := fun W (hb : Below w.heap.size w W) => spec_TabDocument t.s0 t.l1 t.A1 t.n1 t.c1 0 w.heap.size t.l2 t.A2 t.n2 t.c2 0 w.heap.size t.l3 t.A3 t.n3 t.c3 0 w.heap.size t.p4 W (Lib.hid hto.1) (by omega) (HX.1.2.new hb) (Lib.hid hto.2.1) (by omega) (HX.2.1.2.new hb) (Lib.hid hto.2.2.1) (by omega) (HX.2.2.2.new hb) (Lib.hid hto.2.2.2.1)
    generalize mRun t.l1 t.l2 = M at CT hM ⊢
    obtain ⟨b, off, t2, hA, hlo, hhi, hkt2, hcc⟩ := rd_elem DTab.len (hr.old).1.2.1 hln hkn
    obtain rfl : t = t2 := Option.some.inj (hkt.symm.trans hkt2)
    have HCC := Lib.hid (fun (W : World) (hb : Below w.heap.size w W) (j : Nat) (u : Value) (hu : t.cells[j]? = some u) => (World.cell?_of_block (a := ⟨b, off + k * 6 + j, none⟩) (hb.block b hhi)).trans (hcc j u hu))
    have KB0 := Lib.hid (show BoxAt (w.alloc (.cells #[.int .i64 x.p0, .slice x.A1 x.n1 x.c1, .slice x.A2 x.n2 x.c2, .slice x.A3 x.n3 x.c3, .slice x.A4 x.n4 x.c4, .slice x.A5 x.n5 x.c5, .slice x.A6 x.n6 x.c6, .int .i64 x.p7] 40)) w.heap.size 40 #[.int .i64 x.p0, .slice (some ⟨b, off, none⟩) x.n1 x.c1, .slice x.A2 x.n2 x.c2, .slice x.A3 x.n3 x.c3, .slice x.A4 x.n4 x.c4, .slice x.A5 x.n5 x.c5, .slice x.A6 x.n6 x.c6, .int .i64 x.p7] by rw [← hA]; exact box_new w 40 #[.int .i64 x.p0, .slice x.A1 x.n1 x.c1, .slice x.A2 x.n2 x.c2, .slice x.A3 x.n3 x.c3, .slice x.A4 x.n4 x.c4, .slice x.A5 x.n5 x.c5, .slice x.A6 x.n6 x.c6, .int .i64 x.p7])
    replace hA := Lib.hid hA
    replace CT := Lib.hid CT
    have hn := hM
    replace KB0 := Lib.hid (KB0.out.alloc_ (.cells #[] 3))
    generalize hq : M.length = q at CT hn
    have HQ := Lib.hid hq
    clear hin hr hz hok hl e1 hat hkt hkt2 hcc htz htz2 hto hM hts hls HX hln hlo hhi hk hq
    go_enter Tryz.func11, Tryz.ntmps11
    go_wp2_with fail
    refine (CH.out _).mono ?_
    rintro e w1 ⟨rfl, hb1⟩
    have HB1 := Lib.hid (below_trans HB0.out hb1 (by simp))
    have KB1 := KB0.out.new hb1
    have k1 := KB1.at_ (j := 1) rfl
    have c0 : w1.cell? ⟨b, off + k * 6, none⟩ = some (.int .i64 t.s0.f0) := HCC.out w1 HB1.out 0 _ rfl
    have c1 : w1.cell? ⟨b, off + k * 6 + 1, none⟩ = some (.int .i64 t.s0.f1) := HCC.out w1 HB1.out 1 _ rfl
    have c2 : w1.cell? ⟨b, off + k * 6 + 2, none⟩ = some (.slice t.A1 t.n1 t.c1) := HCC.out w1 HB1.out 2 _ rfl
    have c3 : w1.cell? ⟨b, off + k * 6 + 3, none⟩ = some (.slice t.A2 t.n2 t.c2) := HCC.out w1 HB1.out 3 _ rfl
    have c4 : w1.cell? ⟨b, off + k * 6 + 4, none⟩ = some (.slice t.A3 t.n3 t.c3) := HCC.out w1 HB1.out 4 _ rfl
    have c5 : w1.cell? ⟨b, off + k * 6 + 5, none⟩ = some (.int .i64 t.p4) := HCC.out w1 HB1.out 5 _ rfl
    clear hb1 KB1
    go_wp2_with fail
    refine (CT.out _ HB1.out).mono ?_
    rintro e w2 ⟨AD, cD, rfl, hF2, hb2⟩
    have HR := Lib.hid hF2.rd
    have HL := HQ
    have HB2 := Lib.hid (below_trans HB1.out hb2 (Nat.le_refl _))
    clear hF2 hb2 k1 c0 c1 c2 c3 c4 c5
    go_wp2_with fail
    go_loopg [5, 7] q (fun gg v i wr => ∃ (k : Nat) (A : Option Addr) (m c : Nat), k ≤ q ∧ q - k ≤ gg ∧ i = .int .i64 k ∧ v = .slice A m c ∧ m ≤ k ∧ Hid (m = (mAsd (mFm chB TNode.f0 (M.take k))).length) ∧ Hid (Fr wr w2.heap.size wr.heap.size 3 1 A m c (i64s (mAsd (mFm chB TNode.f0 (M.take k))))) ∧ Hid (Below w2.heap.size w2 wr))
    case atStart => exact ⟨0, _, 0, 0, Nat.zero_le _, by omega, rfl, rfl, Nat.le_refl _, Lib.hid rfl, Lib.hid ⟨rfl, fun h => absurd h (by omega)⟩, Lib.hid (Below.refl _ _)⟩
    case round =>
      obtain ⟨k, A', m, c', hk, hg, rfl, rfl, hmk, HM, HF, HB⟩ := hrel
      by_cases hlt : k < q
      · obtain ⟨b, off, x, rfl, _, _, hz, hc⟩ := rd_elem TNode.len (HR.out.new HB.out) HL.out hlt
        have c0 : wr.cell? ⟨b, off + k * 5, none⟩ = _ := hc 0 _ rfl
        have c1 := hc 1 _ rfl
        have c2 := hc 2 _ rfl
        have c3 := hc 3 _ rfl
        have c4 := hc 4 _ rfl
        have HS := Lib.hid HB.out.size
        by_cases h0 : (x.f4 != 0) = true
        · have HE := Lib.hid (show mAsd (mFm chB TNode.f0 (M.take (k + 1))) = mPut x.f0 (mAsd (mFm chB TNode.f0 (M.take k))) by rw [fm_yes hz (by simpa [chB] using h0), mAsd_snoc])
          generalize mAsd (mFm chB TNode.f0 (M.take k)) = L at HE HM HF
          have HN := Lib.hid (mPut_len x.f0 L)
          clear hz hc
          go_wp2_with fail
          refine (spec_l6Put L A' m c' _ _ x.f0 wr (by have := hn; omega) HF.out.rd HF.out.cap).mono ?_
          rintro e w1 ⟨A2, c2, rfl, h1, h2⟩
          have HF1 := Lib.hid (show Fr w1 w2.heap.size w1.heap.size 3 1 A2 (mPut x.f0 L).length c2 (i64s (mAsd (mFm chB TNode.f0 (M.take (k + 1))))) by rw [HE.out]; exact h1.mono HS.out (Nat.le_refl _))
          have HB1 := Lib.hid (below_trans HB.out h2 (Nat.le_refl _))
          clear h1 h2
          go_wp2_with fail
          go_roundg (q - (k + 1))
          case measure => omega
          case rel => exact ⟨k + 1, A2, _, c2, by omega, by omega, by go_num, rfl, by have := HN.out; have := HM.out; omega, Lib.hid (by rw [HE.out]), HF1, HB1⟩
        · have h0 : (x.f4 != 0) = false := by simpa using h0
          have HE := Lib.hid (show mFm chB TNode.f0 (M.take (k + 1)) = mFm chB TNode.f0 (M.take k) from fm_no hz (by simpa [chB] using h0))
          clear hz hc
          go_wp2_with fail
          go_roundg (q - (k + 1))
          case measure => omega
          case rel => exact ⟨k + 1, A', m, c', by omega, by omega, by go_num, rfl, by omega, Lib.hid (by rw [HE.out]; exact HM.out), Lib.hid (by rw [HE.out]; exact HF.out), HB⟩
      · obtain rfl : k = q := by omega
        have HT := Lib.hid (show M.take k = M from List.take_of_length_le (by rw [HL.out]; omega))
        have HF1 := Lib.hid (show Fr wr w2.heap.size wr.heap.size 3 1 A' m c' (i64s (mAsd (mFm chB TNode.f0 M))) by have h := HF.out; rw [HT.out] at h; exact h)
        have HN := Lib.hid (show m = (mAsd (mFm chB TNode.f0 M)).length by have h := HM.out; rw [HT.out] at h; exact h)
        clear HF HM
        go_wp2_with fail
        go_ret
        refine ⟨A', c', ?_, ?_, below_trans HB2.out HB.out (Nat.le_refl _)⟩
        · rw [← HN.out]; rfl
        · rw [← HN.out]; exact HF1.out.mono HB2.out.size (Nat.le_refl _)

end Go.Proofs.YtkegapaococmcaaGreat
