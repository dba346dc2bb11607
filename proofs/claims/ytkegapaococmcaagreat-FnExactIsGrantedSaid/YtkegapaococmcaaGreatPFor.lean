/- packageFor. No condition of its own. -/
import Derived.Test.YtkegapaococmcaaGreatInst
import Derived.Test.YtkegapaococmcaaGreatReg
import Derived.Deep.LoopGhost
namespace Go.Proofs.YtkegapaococmcaaGreat
open Go Go.ChangeShapes Go.WideShapes Go.ChangeAt Go.RowKit Go.Lib
set_option linter.unusedVariables false
set_option linter.unusedSimpArgs false
set_option maxRecDepth 100000
set_option maxHeartbeats 4000000
def mP0 : MPackage := ⟨0, 0, 0, [], [], [], [], 0⟩
def dP0 : DPackage := ⟨0, 0, 0, none, 0, 0, [], none, 0, 0, [], none, 0, 0, [], none, 0, 0, [], 0⟩
/-- The package of this extension, or the one of none. -/
def mPackFor (m : MBrowser) (a : Int) : MPackage := if 0 ≤ mPackOf m a then (m.l2[(mPackOf m a).toNat]?).getD mP0 else mP0
theorem idxP_lt {α : Type} {p : α → Bool} {l : List α} (h : 0 ≤ idxP p l) : ∃ k : Nat, idxP p l = (k : Int) ∧ k < l.length := by
  unfold idxP at h ⊢
  cases hf : l.findIdx? p with
  | none => rw [hf] at h; simp at h
  | some i => exact ⟨i, rfl, (List.findIdx?_eq_some_iff_findIdx_eq.1 hf).1⟩
theorem dP0_rd (w : World) (lo hi : Nat) : dP0.rd w lo hi := ⟨⟨by simp [dP0], Rd.empty⟩, ⟨by simp [dP0], Rd.empty⟩, ⟨by simp [dP0], Rd.empty⟩, ⟨by simp [dP0], Rd.empty⟩⟩
theorem dP0_caps : dP0.caps := ⟨Nat.le_refl _, Nat.le_refl _, Nat.le_refl _, Nat.le_refl _⟩
theorem dP0_ok : dP0.dat.ok := by
  refine ⟨(by show (Lit.int .i64 0).wf = true; decide), (by show (Lit.int .i64 0).wf = true; decide), (by show (Lit.int .i64 0).wf = true; decide), ?_, ?_, ?_, ?_, (by show (Lit.int .i64 0).wf = true; decide)⟩
  all_goals exact fun y hy => by simp [dP0, DPackage.dat] at hy
theorem mPackOf_cases (x : DBrowser) (a : Int) : (mPackOf x.dat a < 0 ∧ mPackFor x.dat a = mP0) ∨ ∃ (k : Nat) (p : DPackage), mPackOf x.dat a = (k : Int) ∧ k < x.l2.length ∧ x.l2[k]? = some p ∧ mPackFor x.dat a = p.dat := by
  by_cases h : 0 ≤ mPackOf x.dat a
  · right
    obtain ⟨k, hk, hlt⟩ := idxP_lt h
    have hk : mPackOf x.dat a = (k : Int) := hk
    have hl : (mInst x.dat).length = x.l2.length := by rw [mInst_eq, List.length_map]
    rw [hl] at hlt
    refine ⟨k, x.l2[k], hk, hlt, List.getElem?_eq_getElem hlt, ?_⟩
    unfold mPackFor
    rw [if_pos h, hk, Int.toNat_natCast]
    simp only [DBrowser.dat, List.getElem?_map, List.getElem?_eq_getElem hlt]; rfl
  · left
    exact ⟨by omega, by unfold mPackFor; rw [if_neg h]⟩
/-- A call that answers a package that reads so. -/
def GivesPack (m : MPackage) (hi : Nat) (w : World) (e : Ending) (w' : World) : Prop :=
  ∃ p : DPackage, e = .returned (.agg #[.int .i64 p.p0, .int .i64 p.p1, .int .i64 p.p2, .slice p.A3 p.n3 p.c3, .slice p.A4 p.n4 p.c4, .slice p.A5 p.n5 p.c5, .slice p.A6 p.n6 p.c6, .int .i64 p.p7]) ∧ p.dat = m ∧ p.rd w' 0 hi ∧ p.caps ∧ p.dat.ok ∧ Below w.heap.size w w'
set_option maxHeartbeats 8000000 in
theorem impl_packageFor (x : DBrowser) (m : MBrowser) (lo hi : Nat) (a : Int) (w : World) (hd : x.dat = m) (hz : m.sz ≤ 1048576) (hok : m.ok) (hr : x.rd w lo hi) (hc : x.caps) :
    Calls Tryz.prog 76 #[.agg #[.int .i64 x.p0, .slice x.A1 x.n1 x.c1, .slice x.A2 x.n2 x.c2, .slice x.A3 x.n3 x.c3, .slice x.A4 x.n4 x.c4, .slice x.A5 x.n5 x.c5, .slice x.A6 x.n6 x.c6, .int .i64 x.p7], .int .i64 a] w (GivesPack (mPackFor m a) w.heap.size w) := by
  have CP := Lib.hid (fun W h => impl_PackOf x m lo hi a W hd hz hok h)
  subst hd
  have HR := Lib.hid hr
  have hn2 : x.n2 ≤ 1048576 := by rw [hr.sz] at hz; omega
  have KB0 : BoxAt ((w.alloc (.cells #[.int .i64 x.p0, .slice x.A1 x.n1 x.c1, .slice x.A2 x.n2 x.c2, .slice x.A3 x.n3 x.c3, .slice x.A4 x.n4 x.c4, .slice x.A5 x.n5 x.c5, .slice x.A6 x.n6 x.c6, .int .i64 x.p7] 40)).alloc (.cells #[.int .i64 0, .int .i64 0, .int .i64 0, .slice none 0 0, .slice none 0 0, .slice none 0 0, .slice none 0 0, .int .i64 0] 119)) w.heap.size 40 #[.int .i64 x.p0, .slice x.A1 x.n1 x.c1, .slice x.A2 x.n2 x.c2, .slice x.A3 x.n3 x.c3, .slice x.A4 x.n4 x.c4, .slice x.A5 x.n5 x.c5, .slice x.A6 x.n6 x.c6, .int .i64 x.p7] := (box_new w 40 #[.int .i64 x.p0, .slice x.A1 x.n1 x.c1, .slice x.A2 x.n2 x.c2, .slice x.A3 x.n3 x.c3, .slice x.A4 x.n4 x.c4, .slice x.A5 x.n5 x.c5, .slice x.A6 x.n6 x.c6, .int .i64 x.p7]).alloc_ _
  have KT0 : BoxAt ((w.alloc (.cells #[.int .i64 x.p0, .slice x.A1 x.n1 x.c1, .slice x.A2 x.n2 x.c2, .slice x.A3 x.n3 x.c3, .slice x.A4 x.n4 x.c4, .slice x.A5 x.n5 x.c5, .slice x.A6 x.n6 x.c6, .int .i64 x.p7] 40)).alloc (.cells #[.int .i64 0, .int .i64 0, .int .i64 0, .slice none 0 0, .slice none 0 0, .slice none 0 0, .slice none 0 0, .int .i64 0] 119)) (w.heap.size + 1) 119 #[.int .i64 0, .int .i64 0, .int .i64 0, .slice none 0 0, .slice none 0 0, .slice none 0 0, .slice none 0 0, .int .i64 0] := by simpa using box_new (w.alloc (.cells #[.int .i64 x.p0, .slice x.A1 x.n1 x.c1, .slice x.A2 x.n2 x.c2, .slice x.A3 x.n3 x.c3, .slice x.A4 x.n4 x.c4, .slice x.A5 x.n5 x.c5, .slice x.A6 x.n6 x.c6, .int .i64 x.p7] 40)) 119 #[.int .i64 0, .int .i64 0, .int .i64 0, .slice none 0 0, .slice none 0 0, .slice none 0 0, .slice none 0 0, .int .i64 0]
  have HB0 : Below w.heap.size w ((w.alloc (.cells #[.int .i64 x.p0, .slice x.A1 x.n1 x.c1, .slice x.A2 x.n2 x.c2, .slice x.A3 x.n3 x.c3, .slice x.A4 x.n4 x.c4, .slice x.A5 x.n5 x.c5, .slice x.A6 x.n6 x.c6, .int .i64 x.p7] 40)).alloc (.cells #[.int .i64 0, .int .i64 0, .int .i64 0, .slice none 0 0, .slice none 0 0, .slice none 0 0, .slice none 0 0, .int .i64 0] 119)) := ((Below.refl w.heap.size w).alloc (Nat.le_refl _) _).alloc (by simp) _
  replace KB0 := Lib.hid KB0
  replace KT0 := Lib.hid KT0
  replace HB0 := Lib.hid HB0
  rcases mPackOf_cases x a with ⟨hneg, hfor⟩ | ⟨k, p, hk, hlt, hkp, hfor⟩
  · rw [hfor]
    generalize mPackOf x.dat a = r at CP hneg
    have hd1 : decide (r ≥ 0) = false := by simp; omega
    clear hr hz hok hc hfor hneg
    go_enter Tryz.func76, Tryz.ntmps76
    go_wp2_with fail
    refine (CP.out _ ((HR.out.alloc _).alloc _)).mono ?_
    rintro e w1 ⟨rfl, hb1⟩
    have KT1 := Lib.hid (KT0.out.new hb1)
    have HB1 := Lib.hid (below_trans HB0.out hb1 (Nat.le_refl _))
    have HV := Lib.hid (box_row (cs := #[.int .i64 0, .int .i64 0, .int .i64 0, .slice none 0 0, .slice none 0 0, .slice none 0 0, .slice none 0 0, .int .i64 0]) KT1.out)
    have HBv := Lib.hid (below_setRow (Below.refl w.heap.size w1) (show w.heap.size ≤ w.heap.size + 1 by omega) #[.int .i64 0, .int .i64 0, .int .i64 0, .slice none 0 0, .slice none 0 0, .slice none 0 0, .slice none 0 0, .int .i64 0])
    clear hb1
    go_wp2_with (refine wpList_store_row rfl 119 _ _ rfl (w.heap.size + 1) #[.int .i64 0, .int .i64 0, .int .i64 0, .slice none 0 0, .slice none 0 0, .slice none 0 0, .slice none 0 0, .int .i64 0] rfl rfl 119 _ KT1.out (by kernel_rfl) (by kernel_rfl) (by kernel_rfl) ?_; generalize World.setRow w1 (w.heap.size + 1) #[.int .i64 0, .int .i64 0, .int .i64 0, .slice none 0 0, .slice none 0 0, .slice none 0 0, .slice none 0 0, .int .i64 0] = w6 at HV HBv ⊢)
    have HB6 := Lib.hid (HB1.out.trans HBv.out)
    have k0 : w6.cell? ⟨w.heap.size + 1, 0, none⟩ = some (.int .i64 0) := HV.out.at_ rfl
    have k1 : w6.cell? ⟨w.heap.size + 1, 1, none⟩ = some (.int .i64 0) := HV.out.at_ rfl
    have k2 : w6.cell? ⟨w.heap.size + 1, 2, none⟩ = some (.int .i64 0) := HV.out.at_ rfl
    have k3 : w6.cell? ⟨w.heap.size + 1, 3, none⟩ = some (.slice none 0 0) := HV.out.at_ rfl
    have k4 : w6.cell? ⟨w.heap.size + 1, 4, none⟩ = some (.slice none 0 0) := HV.out.at_ rfl
    have k5 : w6.cell? ⟨w.heap.size + 1, 5, none⟩ = some (.slice none 0 0) := HV.out.at_ rfl
    have k6 : w6.cell? ⟨w.heap.size + 1, 6, none⟩ = some (.slice none 0 0) := HV.out.at_ rfl
    have k7 : w6.cell? ⟨w.heap.size + 1, 7, none⟩ = some (.int .i64 0) := HV.out.at_ rfl
    exact bodyPost_ret (v := .agg #[.int .i64 0, .int .i64 0, .int .i64 0, .slice none 0 0, .slice none 0 0, .slice none 0 0, .slice none 0 0, .int .i64 0]) (by simp [results, Tryz.results76, go_sem, k0, k1, k2, k3, k4, k5, k6, k7]) rfl ⟨dP0, rfl, rfl, dP0_rd _ _ _, dP0_caps, dP0_ok, HB6.out⟩
  · rw [hfor]
    rw [hk] at CP
    have hln := hr.2.1.len
    have hkn : k < x.n2 := by omega
    have HX := Lib.hid ((hr.old).2.1.at_ hkp)
    have hpc : p.caps := hc.2.2.2.2.2.1 p (List.mem_of_getElem? hkp)
    have hpo : p.dat.ok := hok.2.2.1 p.dat (List.mem_map.2 ⟨p, List.mem_of_getElem? hkp, rfl⟩)
    obtain ⟨b, off, p2, hA, _, hhi, hkp2, hcc⟩ := rd_elem DPackage.len (hr.old).2.1.2.1 hln hkn
    obtain rfl : p = p2 := Option.some.inj (hkp.symm.trans hkp2)
    have HCC := Lib.hid (fun (W : World) (hb : Below w.heap.size w W) (j : Nat) (u : Value) (hu : p.cells[j]? = some u) => (World.cell?_of_block (a := ⟨b, off + k * 8 + j, none⟩) (hb.block b hhi)).trans (hcc j u hu))
    have KB2 := Lib.hid (show BoxAt ((w.alloc (.cells #[.int .i64 x.p0, .slice x.A1 x.n1 x.c1, .slice x.A2 x.n2 x.c2, .slice x.A3 x.n3 x.c3, .slice x.A4 x.n4 x.c4, .slice x.A5 x.n5 x.c5, .slice x.A6 x.n6 x.c6, .int .i64 x.p7] 40)).alloc (.cells #[.int .i64 0, .int .i64 0, .int .i64 0, .slice none 0 0, .slice none 0 0, .slice none 0 0, .slice none 0 0, .int .i64 0] 119)) w.heap.size 40 #[.int .i64 x.p0, .slice x.A1 x.n1 x.c1, .slice (some ⟨b, off, none⟩) x.n2 x.c2, .slice x.A3 x.n3 x.c3, .slice x.A4 x.n4 x.c4, .slice x.A5 x.n5 x.c5, .slice x.A6 x.n6 x.c6, .int .i64 x.p7] by rw [← hA]; exact KB0.out)
    replace hA := Lib.hid hA
    replace hpc := Lib.hid hpc
    replace hpo := Lib.hid hpo
    clear hr hz hok hc hfor hk hkp hkp2 hcc hln
    go_enter Tryz.func76, Tryz.ntmps76
    go_wp2_with fail
    refine (CP.out _ ((HR.out.alloc _).alloc _)).mono ?_
    rintro e w1 ⟨rfl, hb1⟩
    have KT1 := Lib.hid (KT0.out.new hb1)
    have KQ := Lib.hid (KB2.out.new hb1)
    have HB1 := Lib.hid (below_trans HB0.out hb1 (Nat.le_refl _))
    have k2 := KQ.out.at_ (j := 2) rfl
    have c0 : w1.cell? ⟨b, off + k * 8, none⟩ = some (.int .i64 p.p0) := HCC.out w1 HB1.out 0 _ rfl
    have c1 : w1.cell? ⟨b, off + k * 8 + 1, none⟩ = some (.int .i64 p.p1) := HCC.out w1 HB1.out 1 _ rfl
    have c2 : w1.cell? ⟨b, off + k * 8 + 2, none⟩ = some (.int .i64 p.p2) := HCC.out w1 HB1.out 2 _ rfl
    have c3 : w1.cell? ⟨b, off + k * 8 + 3, none⟩ = some (.slice p.A3 p.n3 p.c3) := HCC.out w1 HB1.out 3 _ rfl
    have c4 : w1.cell? ⟨b, off + k * 8 + 4, none⟩ = some (.slice p.A4 p.n4 p.c4) := HCC.out w1 HB1.out 4 _ rfl
    have c5 : w1.cell? ⟨b, off + k * 8 + 5, none⟩ = some (.slice p.A5 p.n5 p.c5) := HCC.out w1 HB1.out 5 _ rfl
    have c6 : w1.cell? ⟨b, off + k * 8 + 6, none⟩ = some (.slice p.A6 p.n6 p.c6) := HCC.out w1 HB1.out 6 _ rfl
    have c7 : w1.cell? ⟨b, off + k * 8 + 7, none⟩ = some (.int .i64 p.p7) := HCC.out w1 HB1.out 7 _ rfl
    have HV := Lib.hid (box_row (cs := #[.int .i64 p.p0, .int .i64 p.p1, .int .i64 p.p2, .slice p.A3 p.n3 p.c3, .slice p.A4 p.n4 p.c4, .slice p.A5 p.n5 p.c5, .slice p.A6 p.n6 p.c6, .int .i64 p.p7]) KT1.out)
    have HBv := Lib.hid (below_setRow (Below.refl w.heap.size w1) (show w.heap.size ≤ w.heap.size + 1 by omega) #[.int .i64 p.p0, .int .i64 p.p1, .int .i64 p.p2, .slice p.A3 p.n3 p.c3, .slice p.A4 p.n4 p.c4, .slice p.A5 p.n5 p.c5, .slice p.A6 p.n6 p.c6, .int .i64 p.p7])
    clear hb1
    go_wp2_with (refine wpList_store_row rfl 119 _ _ rfl (w.heap.size + 1) #[.int .i64 p.p0, .int .i64 p.p1, .int .i64 p.p2, .slice p.A3 p.n3 p.c3, .slice p.A4 p.n4 p.c4, .slice p.A5 p.n5 p.c5, .slice p.A6 p.n6 p.c6, .int .i64 p.p7] rfl rfl 119 _ KT1.out (by kernel_rfl) (by kernel_rfl) (by kernel_rfl) ?_; generalize World.setRow w1 (w.heap.size + 1) #[.int .i64 p.p0, .int .i64 p.p1, .int .i64 p.p2, .slice p.A3 p.n3 p.c3, .slice p.A4 p.n4 p.c4, .slice p.A5 p.n5 p.c5, .slice p.A6 p.n6 p.c6, .int .i64 p.p7] = w6 at HV HBv ⊢)
    have HB6 := Lib.hid (HB1.out.trans HBv.out)
    clear k2 c0 c1 c2 c3 c4 c5 c6 c7
    have k0 : w6.cell? ⟨w.heap.size + 1, 0, none⟩ = some (.int .i64 p.p0) := HV.out.at_ rfl
    have k1 : w6.cell? ⟨w.heap.size + 1, 1, none⟩ = some (.int .i64 p.p1) := HV.out.at_ rfl
    have k2 : w6.cell? ⟨w.heap.size + 1, 2, none⟩ = some (.int .i64 p.p2) := HV.out.at_ rfl
    have k3 : w6.cell? ⟨w.heap.size + 1, 3, none⟩ = some (.slice p.A3 p.n3 p.c3) := HV.out.at_ rfl
    have k4 : w6.cell? ⟨w.heap.size + 1, 4, none⟩ = some (.slice p.A4 p.n4 p.c4) := HV.out.at_ rfl
    have k5 : w6.cell? ⟨w.heap.size + 1, 5, none⟩ = some (.slice p.A5 p.n5 p.c5) := HV.out.at_ rfl
    have k6 : w6.cell? ⟨w.heap.size + 1, 6, none⟩ = some (.slice p.A6 p.n6 p.c6) := HV.out.at_ rfl
    have k7 : w6.cell? ⟨w.heap.size + 1, 7, none⟩ = some (.int .i64 p.p7) := HV.out.at_ rfl
    exact bodyPost_ret (v := .agg #[.int .i64 p.p0, .int .i64 p.p1, .int .i64 p.p2, .slice p.A3 p.n3 p.c3, .slice p.A4 p.n4 p.c4, .slice p.A5 p.n5 p.c5, .slice p.A6 p.n6 p.c6, .int .i64 p.p7]) (by simp [results, Tryz.results76, go_sem, k0, k1, k2, k3, k4, k5, k6, k7]) rfl ⟨p, rfl, rfl, DPackage.rd_keep HX.out (fun b _ h2 _ => HB6.out.block b h2), hpc.out, hpo.out, HB6.out⟩

end Go.Proofs.YtkegapaococmcaaGreat
