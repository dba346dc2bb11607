/- RulesInForce of the program. No condition of its own. -/
import Derived.Test.YtfhoemgpilpapaaDBrowser
import Derived.Test.YtfhoemgpilpapaaDenied
import Derived.Test.YtfhoemgpilpapaaRB
import Derived.Test.YtfhoemgpilpapaaFun
import Derived.Test.YtfhoemgpilpapaaGB
import Derived.Test.YtfhoemgpilpapaaApp
import Derived.Test.YtfhoemgpilpapaaReg
import Derived.Handy
import Derived.Deep.LoopGhost
import Derived.WalkMore
import Derived.ScopeJumps
namespace Go.Proofs.Ytfhoemgpilpapaa
open Go Go.ChangeShapes Go.WideShapes Go.ChangeAt Go.RowKit Go.Lib
set_option linter.unusedVariables false
set_option linter.unusedSimpArgs false
set_option maxRecDepth 100000
set_option maxHeartbeats 4000000
def mRIF (m : MBrowser) (s : TSite) : List TRule := m.l5.filter fun r => !mDenied m.l4 r.f0 s 3
theorem mRIF_len (m : MBrowser) (s : TSite) : (mRIF m s).length ≤ m.sz := Nat.le_trans (List.length_filter_le _ _) (by simp only [MBrowser.sz]; omega)
theorem rif_filt {α : Type} {p : α → Bool} {l : List α} {k : Nat} {x : α} (h : l[k]? = some x) : (l.take (k + 1)).filter p = if p x = true then (l.take k).filter p ++ [x] else (l.take k).filter p := by
  rw [List.take_add_one, h, Option.toList_some, List.filter_append]
  by_cases hp : p x = true <;> simp [hp]
theorem rif_var (w : World) (t : TypeId) (zs cs : Array Value) : BoxAt ((w.alloc (.cells zs t)).setRow w.heap.size cs) w.heap.size t cs ∧ Below w.heap.size w ((w.alloc (.cells zs t)).setRow w.heap.size cs) :=
  ⟨box_row (box_new w t zs), below_setRow ((Below.refl _ _).alloc (Nat.le_refl _) _) (Nat.le_refl _) _⟩
theorem rif_hit {α : Type} {p : α → Bool} {l : List α} {k : Nat} {x : α} (hz : l[k]? = some x) (h : p x = true) : l.any p = true := List.any_eq_true.2 ⟨x, List.mem_of_getElem? hz, h⟩
set_option maxHeartbeats 8000000 in
theorem impl_RulesInForceC (x : DBrowser) (m : MBrowser) (lo hi : Nat) (s : TSite) (w : World) (hd : x.dat = m) (hz : m.sz ≤ 1048576) (hok : m.ok) (hr : x.rd w lo hi) (hc : x.caps) :
    Calls Try.prog 32 #[.agg #[.int .i64 x.p0, .slice x.A1 x.n1 x.c1, .slice x.A2 x.n2 x.c2, .slice x.A3 x.n3 x.c3, .slice x.A4 x.n4 x.c4, .slice x.A5 x.n5 x.c5, .slice x.A6 x.n6 x.c6, .int .i64 x.p7], vSite s] w (Makes 104 8 (mRIF m s).length (cRule (mRIF m s)) w) := by
  subst hd
  have hzs := hz
  rw [hr.sz] at hz
  have hz' : x.n1 + x.n2 + x.n3 + x.n4 + x.n5 + x.n6 ≤ 1048576 := by omega
  have HL5 := Lib.hid hr.len.2.2.2.2.1
  have HL4 := Lib.hid hr.len.2.2.2.1
  have HR5 := Lib.hid hr.2.2.2.2.1.2
  have HR4 := Lib.hid hr.2.2.2.1.2
  have hok4 := hok.2.2.2.2.1
  have HD := Lib.hid (fun (y : TLimit) (hy : y ∈ x.l4) (ext : Int) (V : World) (A1 : Option Addr) (lo hi : Nat) (h : Rd V lo hi 4 A1 1 (cLimit [y])) => impl_IsDeniedC [y] A1 1 1 lo hi ext s 3 V (by decide) h (by decide) (Lib.hid (fun z hz => by simp at hz; subst hz; exact hok4 _ hy)))
  have hn5 : x.n5 ≤ 1048576 := by omega
  have hn4 : x.n4 ≤ 1048576 := by omega
  change Calls _ _ _ _ (Makes 104 8 (x.l5.filter fun r => !mDenied x.l4 r.f0 s 3).length (cRule (x.l5.filter fun r => !mDenied x.l4 r.f0 s 3)) w)
  generalize hP : (fun r : TRule => !mDenied x.l4 r.f0 s 3) = P
  have HP := Lib.hid (show ∀ r, P r = !(x.l4.any (mDeny r.f0 s 3)) by rw [← hP]; intro r; rfl)
  clear hP hr hz hzs hok hc hok4
  generalize x.A5 = A5v at HR5 ⊢
  generalize x.A4 = A4v at HR4 ⊢
  have KB0 : BoxAt ((w.alloc (.cells #[.int .i64 x.p0, .slice x.A1 x.n1 x.c1, .slice x.A2 x.n2 x.c2, .slice x.A3 x.n3 x.c3, .slice A4v x.n4 x.c4, .slice A5v x.n5 x.c5, .slice x.A6 x.n6 x.c6, .int .i64 x.p7] 40)).alloc (.cells #[.int .i64 s.f0, .int .i64 s.f1] 53)) w.heap.size 40 #[.int .i64 x.p0, .slice x.A1 x.n1 x.c1, .slice x.A2 x.n2 x.c2, .slice x.A3 x.n3 x.c3, .slice A4v x.n4 x.c4, .slice A5v x.n5 x.c5, .slice x.A6 x.n6 x.c6, .int .i64 x.p7] := (box_new w 40 #[.int .i64 x.p0, .slice x.A1 x.n1 x.c1, .slice x.A2 x.n2 x.c2, .slice x.A3 x.n3 x.c3, .slice A4v x.n4 x.c4, .slice A5v x.n5 x.c5, .slice x.A6 x.n6 x.c6, .int .i64 x.p7]).alloc_ _
  have KS0 : BoxAt ((w.alloc (.cells #[.int .i64 x.p0, .slice x.A1 x.n1 x.c1, .slice x.A2 x.n2 x.c2, .slice x.A3 x.n3 x.c3, .slice A4v x.n4 x.c4, .slice A5v x.n5 x.c5, .slice x.A6 x.n6 x.c6, .int .i64 x.p7] 40)).alloc (.cells #[.int .i64 s.f0, .int .i64 s.f1] 53)) (w.heap.size + 1) 53 #[.int .i64 s.f0, .int .i64 s.f1] := by simpa using box_new (w.alloc (.cells #[.int .i64 x.p0, .slice x.A1 x.n1 x.c1, .slice x.A2 x.n2 x.c2, .slice x.A3 x.n3 x.c3, .slice A4v x.n4 x.c4, .slice A5v x.n5 x.c5, .slice x.A6 x.n6 x.c6, .int .i64 x.p7] 40)) 53 #[.int .i64 s.f0, .int .i64 s.f1]
  have HO0 := Lib.hid (show (((w.alloc (.cells #[.int .i64 x.p0, .slice x.A1 x.n1 x.c1, .slice x.A2 x.n2 x.c2, .slice x.A3 x.n3 x.c3, .slice A4v x.n4 x.c4, .slice A5v x.n5 x.c5, .slice x.A6 x.n6 x.c6, .int .i64 x.p7] 40)).alloc (.cells #[.int .i64 s.f0, .int .i64 s.f1] 53)).alloc (.cells #[] 104)).ownsRow (w.heap.size + 1 + 1) 104 8 (.slice (some ⟨w.heap.size + 1 + 1, 0, none⟩) 0 0) 0 [] by
    have := World.ownsRow_lit (e := 104) (size := 8) ((w.alloc (.cells #[.int .i64 x.p0, .slice x.A1 x.n1 x.c1, .slice x.A2 x.n2 x.c2, .slice x.A3 x.n3 x.c3, .slice A4v x.n4 x.c4, .slice A5v x.n5 x.c5, .slice x.A6 x.n6 x.c6, .int .i64 x.p7] 40)).alloc (.cells #[.int .i64 s.f0, .int .i64 s.f1] 53)) #[] 0 (Nat.le_refl _) (by unfold maxLen; omega) rfl
    simpa using this)
  replace KB0 := Lib.hid KB0
  replace KS0 := Lib.hid KS0
  go_enter Try.func32, Try.ntmps32
  go_wp2_with fail
  go_step3
  go_wp2_with fail
  go_step3
  go_wp2_with fail
  go_loopg [5, 14] x.n5 (fun gg v i wr => ∃ (k : Nat) (vv : Value), vv = v ∧ k ≤ x.n5 ∧ x.n5 - k ≤ gg ∧ i = .int .i64 k ∧ Hid (wr.ownsRow (w.heap.size + 1 + 1) 104 8 v ((x.l5.take k).filter P).length (cRule ((x.l5.take k).filter P))) ∧ Hid (BoxAt wr w.heap.size 40 #[.int .i64 x.p0, .slice x.A1 x.n1 x.c1, .slice x.A2 x.n2 x.c2, .slice x.A3 x.n3 x.c3, .slice A4v x.n4 x.c4, .slice A5v x.n5 x.c5, .slice x.A6 x.n6 x.c6, .int .i64 x.p7]) ∧ Hid (BoxAt wr (w.heap.size + 1) 53 #[.int .i64 s.f0, .int .i64 s.f1]) ∧ Hid (Below w.heap.size w wr))
  case atStart => exact ⟨0, _, rfl, Nat.zero_le _, by omega, rfl, HO0, Lib.hid (KB0.out.alloc_ _), Lib.hid (KS0.out.alloc_ _), Lib.hid ((((Below.refl w.heap.size w).alloc (Nat.le_refl _) _).alloc (by simp) _).alloc (by simp <;> omega) _)⟩
  case round =>
    obtain ⟨k, vv, rfl, hk, hg, rfl, HO, KB, KS, HB⟩ := hrel
    obtain ⟨wo, rfl⟩ : ∃ wo : World, wo = wr := ⟨_, rfl⟩
    by_cases hlt : k < x.n5
    · obtain ⟨b, off, r, rfl, _, _, hz, hc⟩ := rd_elem TRule.len (HR5.out.new HB.out) HL5.out hlt
      have c0 : wo.cell? ⟨b, off + k * 8, none⟩ = some (.int .i64 r.f0) := hc 0 _ rfl
      have c1 : wo.cell? ⟨b, off + k * 8 + 1, none⟩ = some (.int .i64 r.f1) := hc 1 _ rfl
      have c2 : wo.cell? ⟨b, off + k * 8 + 2, none⟩ = some (.int .i64 r.f2) := hc 2 _ rfl
      have c3 : wo.cell? ⟨b, off + k * 8 + 3, none⟩ = some (.int .i64 r.f3) := hc 3 _ rfl
      have c4 : wo.cell? ⟨b, off + k * 8 + 4, none⟩ = some (.int .i64 r.f4) := hc 4 _ rfl
      have c5 : wo.cell? ⟨b, off + k * 8 + 5, none⟩ = some (.int .i64 r.f5) := hc 5 _ rfl
      have c6 : wo.cell? ⟨b, off + k * 8 + 6, none⟩ = some (.int .i64 r.f6) := hc 6 _ rfl
      have c7 : wo.cell? ⟨b, off + k * 8 + 7, none⟩ = some (.int .i64 r.f7) := hc 7 _ rfl
      have HN := Lib.hid (Nat.le_trans (List.length_filter_le P (x.l5.take k)) (List.length_take_le _ _))
      have hE := rif_filt (p := P) hz
      rw [HP.out r] at hE
      have HEt := Lib.hid (fun (h : x.l4.any (mDeny r.f0 s 3) = true) => hE.trans (if_neg (by rw [h]; decide)))
      have HEf := Lib.hid (fun (h : x.l4.any (mDeny r.f0 s 3) = false) => hE.trans (if_pos (by rw [h]; decide)))
      clear hE hz hc
      obtain ⟨HV, HBv⟩ := (⟨Lib.hid (rif_var wo 104 #[.int .i64 0, .int .i64 0, .int .i64 0, .int .i64 0, .int .i64 0, .int .i64 0, .int .i64 0, .int .i64 0] #[.int .i64 r.f0, .int .i64 r.f1, .int .i64 r.f2, .int .i64 r.f3, .int .i64 r.f4, .int .i64 r.f5, .int .i64 r.f6, .int .i64 r.f7]).1, Lib.hid (rif_var wo 104 #[.int .i64 0, .int .i64 0, .int .i64 0, .int .i64 0, .int .i64 0, .int .i64 0, .int .i64 0, .int .i64 0] #[.int .i64 r.f0, .int .i64 r.f1, .int .i64 r.f2, .int .i64 r.f3, .int .i64 r.f4, .int .i64 r.f5, .int .i64 r.f6, .int .i64 r.f7]).2⟩ : Hid _ ∧ Hid _)
      have kb5 := KB.out.at_ (j := 5) rfl
      go_wp2_with (refine wpList_store_row rfl 104 _ _ rfl wo.heap.size #[.int .i64 r.f0, .int .i64 r.f1, .int .i64 r.f2, .int .i64 r.f3, .int .i64 r.f4, .int .i64 r.f5, .int .i64 r.f6, .int .i64 r.f7] rfl rfl 104 _ (box_new wo 104 #[.int .i64 0, .int .i64 0, .int .i64 0, .int .i64 0, .int .i64 0, .int .i64 0, .int .i64 0, .int .i64 0]) (by kernel_rfl) (by kernel_rfl) (by kernel_rfl) ?_; generalize World.setRow (wo.alloc (.cells #[.int .i64 0, .int .i64 0, .int .i64 0, .int .i64 0, .int .i64 0, .int .i64 0, .int .i64 0, .int .i64 0] 104)) wo.heap.size #[.int .i64 r.f0, .int .i64 r.f1, .int .i64 r.f2, .int .i64 r.f3, .int .i64 r.f4, .int .i64 r.f5, .int .i64 r.f6, .int .i64 r.f7] = w5 at HV HBv ⊢; (have kb4 := (KB.out.new HBv.out).at_ (j := 4) rfl))
      have HB5 := Lib.hid (below_trans HB.out HBv.out (Nat.le_refl _))
      have HO5 := Lib.hid (own_newer HO.out HBv.out)
      have KB5 := Lib.hid (KB.out.new HBv.out)
      have KS5 := Lib.hid (KS.out.new HBv.out)
      have HRl := Lib.hid (HR4.out.new HB5.out)
      clear c0 c1 c2 c3 c4 c5 c6 c7 HBv HO HB KB KS kb4 kb5
      go_loopg [21] x.n4 (fun g2 j wj => ∃ q : Nat, q ≤ x.n4 ∧ x.n4 - q ≤ g2 ∧ j = .int .i64 q ∧ Hid ((x.l4.take q).any (mDeny r.f0 s 3) = false) ∧ Hid (BoxAt wj wo.heap.size 104 #[.int .i64 r.f0, .int .i64 r.f1, .int .i64 r.f2, .int .i64 r.f3, .int .i64 r.f4, .int .i64 r.f5, .int .i64 r.f6, .int .i64 r.f7]) ∧ Hid (Below w5.heap.size w5 wj))
      case atStart => exact ⟨0, Nat.zero_le _, by omega, rfl, Lib.hid (by simp), HV, Lib.hid (Below.refl _ _)⟩
      case round =>
        obtain ⟨q, hq, hgq, rfl, HF, HVm, HBm⟩ := hrel
        have HO6 := Lib.hid (own_newer HO5.out HBm.out)
        have HB6 := Lib.hid (below_trans HB5.out HBm.out (Nat.le_refl _))
        have KB6 := Lib.hid (KB5.out.new HBm.out)
        have KS6 := Lib.hid (KS5.out.new HBm.out)
        clear HV
        by_cases hlq : q < x.n4
        · obtain ⟨b2, off2, y, hA2, _, _, hz2, hc2⟩ := rd_elem TLimit.len (HRl.out.new HBm.out) HL4.out hlq
          cases hA2
          have d0 : wr.cell? ⟨b2, off2 + q * 4, none⟩ = some (.int .i64 y.f0) := hc2 0 _ rfl
          have d1 : wr.cell? ⟨b2, off2 + q * 4 + 1, none⟩ = some (.int .i64 y.f1) := hc2 1 _ rfl
          have d2 : wr.cell? ⟨b2, off2 + q * 4 + 2, none⟩ = some (.int .i64 y.f2) := hc2 2 _ rfl
          have d3 : wr.cell? ⟨b2, off2 + q * 4 + 3, none⟩ = some (.int .i64 y.f3) := hc2 3 _ rfl
          have HZ2 := Lib.hid hz2
          have hcall := HD.out y (List.mem_of_getElem? hz2) r.f0
          clear hz2 hc2
          obtain ⟨HW, HBw⟩ := (⟨Lib.hid (rif_var wr 111 #[.int .i64 0, .int .i64 0, .int .i64 0, .int .i64 0] #[.int .i64 y.f0, .int .i64 y.f1, .int .i64 y.f2, .int .i64 y.f3]).1, Lib.hid (rif_var wr 111 #[.int .i64 0, .int .i64 0, .int .i64 0, .int .i64 0] #[.int .i64 y.f0, .int .i64 y.f1, .int .i64 y.f2, .int .i64 y.f3]).2⟩ : Hid _ ∧ Hid _)
          have hd1 : mDenied [y] r.f0 s 3 = mDeny r.f0 s 3 y := by simp [mDenied]
          rw [hd1] at hcall
          generalize hdd : mDeny r.f0 s 3 y = dd at hcall
          replace hcall := Lib.hid hcall
          have HVn := Lib.hid (HVm.out.new HBw.out)
          have KSn := Lib.hid (KS6.out.new HBw.out)
          have HEt2 := Lib.hid (fun (h : dd = true) => HEt.out (rif_hit HZ2.out (hdd.trans h)))
          have HEf2 := Lib.hid (fun (h : dd = false) => any_step HF.out HZ2.out (hdd.trans h))
          clear hdd hd1
          go_wp2_with (refine wpList_store_row rfl 111 _ _ rfl wr.heap.size #[.int .i64 y.f0, .int .i64 y.f1, .int .i64 y.f2, .int .i64 y.f3] rfl rfl 111 _ (box_new wr 111 #[.int .i64 0, .int .i64 0, .int .i64 0, .int .i64 0]) (by kernel_rfl) (by kernel_rfl) (by kernel_rfl) ?_; generalize World.setRow (wr.alloc (.cells #[.int .i64 0, .int .i64 0, .int .i64 0, .int .i64 0] 111)) wr.heap.size #[.int .i64 y.f0, .int .i64 y.f1, .int .i64 y.f2, .int .i64 y.f3] = w6 at HW HBw HVn KSn ⊢; (have e0 := HW.out.at_ (j := 0) rfl); (have e1 := HW.out.at_ (j := 1) rfl); (have e2 := HW.out.at_ (j := 2) rfl); (have e3 := HW.out.at_ (j := 3) rfl); (have x0 := HVn.out.at_ (j := 0) rfl); (have s0 := KSn.out.at_ (j := 0) rfl); (have s1 := KSn.out.at_ (j := 1) rfl); (have nx : wo.heap.size < w6.heap.size := HVn.out.lt); (have ny : wr.heap.size < w6.heap.size := HW.out.lt); (have ns : w.heap.size + 1 < w6.heap.size := KSn.out.lt))
          have HLit := Lib.hid (rd_lit w6 #[.int .i64 y.f0, .int .i64 y.f1, .int .i64 y.f2, .int .i64 y.f3] 111 1 4 rfl)
          refine Calls.mono (hcall.out _ _ _ _ (by simpa [cLimit, TLimit.cells] using HLit.out)) ?_
          rintro e w7 ⟨rfl, hb7⟩
          have HB7a := Lib.hid (below_trans (HBw.out.alloc (by have := HBw.out.size; omega) (.cells #[.int .i64 y.f0, .int .i64 y.f1, .int .i64 y.f2, .int .i64 y.f3] 111)) hb7 (by have := HBw.out.size; simp; try omega))
          have HB7 := Lib.hid (below_trans HB6.out HB7a.out (Nat.le_refl _))
          have HO7 := Lib.hid (own_newer HO6.out HB7a.out)
          have HV7 := Lib.hid (HVm.out.new HB7a.out)
          have KB7 := Lib.hid (KB6.out.new HB7a.out)
          have KS7 := Lib.hid (KS6.out.new HB7a.out)
          have HBn := Lib.hid (below_trans HBm.out HB7a.out (Nat.le_refl _))
          clear hb7 HW HBw HVn KSn HLit e0 e1 e2 e3 x0 s0 s1 nx ny ns d0 d1 d2 d3
          cases dd with
          | true =>
            have HE := Lib.hid (HEt2.out rfl)
            clear HEt2 HEf2 HEt HEf
            go_wp2_with fail
            go_roundg (x.n5 - (k + 1))
            case measure => omega
            case rel => exact ⟨k + 1, _, rfl, by omega, by omega, by go_num, by rw [HE.out]; exact HO7, KB7, KS7, HB7⟩
          | false =>
            have HE := Lib.hid (HEf2.out rfl)
            clear HEt2 HEf2
            go_wp2_with fail
            go_roundg (x.n4 - (q + 1))
            case measure => omega
            case rel => exact ⟨q + 1, by omega, by omega, by go_num, HE, HV7, HBn⟩
        · obtain rfl : q = x.n4 := by omega
          have HE := Lib.hid (HEf.out (by have := HF.out; rwa [List.take_of_length_le (by rw [HL4.out]; omega)] at this))
          clear HEt HEf HF
          have e0 := HVm.out.at_ (j := 0) rfl
          have e1 := HVm.out.at_ (j := 1) rfl
          have e2 := HVm.out.at_ (j := 2) rfl
          have e3 := HVm.out.at_ (j := 3) rfl
          have e4 := HVm.out.at_ (j := 4) rfl
          have e5 := HVm.out.at_ (j := 5) rfl
          have e6 := HVm.out.at_ (j := 6) rfl
          have e7 := HVm.out.at_ (j := 7) rfl
          have HS := Lib.hid (show w.heap.size + 1 + 1 ≤ wr.heap.size from KS6.out.lt)
          go_wp2_with (at_builtin; refine wp_app_lit rfl _ _ _ rfl (w.heap.size + 1 + 1) 104 (.agg #[.int .i64 0, .int .i64 0, .int .i64 0, .int .i64 0, .int .i64 0, .int .i64 0, .int .i64 0, .int .i64 0]) 8 64 Try.underlying37 infoRule rfl (by decide) _ _ _ rfl HO6.out #[.int .i64 r.f0, .int .i64 r.f1, .int .i64 r.f2, .int .i64 r.f3, .int .i64 r.f4, .int .i64 r.f5, .int .i64 r.f6, .int .i64 r.f7] 1 1 _ rfl (by simp) rfl (onesRule r) (by have := HN.out; unfold maxLen; omega) (by have := HN.out; omega) (by have := HS.out; omega) ?_; intro v1 w8 ho8 hb8)
          have HO8 := Lib.hid (show w8.ownsRow (w.heap.size + 1 + 1) 104 8 v1 ((x.l5.take (k + 1)).filter P).length (cRule ((x.l5.take (k + 1)).filter P)) by rw [HE.out]; simpa [cRule, TRule.cells, List.flatMap_append] using ho8)
          have KB8 := Lib.hid (KB6.out.keep (hb8.block _ (by omega)))
          have KS8 := Lib.hid (KS6.out.keep (hb8.block _ (by omega)))
          have HB8 := Lib.hid (HB6.out.trans (hb8.mono (by omega)))
          clear ho8 hb8 e0 e1 e2 e3 e4 e5 e6 e7
          go_wp2_with fail
          go_roundg (x.n5 - (k + 1))
          case measure => omega
          case rel => exact ⟨k + 1, _, rfl, by omega, by omega, by go_num, HO8, KB8, KS8, HB8⟩
    · obtain rfl : k = x.n5 := by omega
      have HO2 := Lib.hid (own_base (base' := w.heap.size) (show wo.ownsRow (w.heap.size + 1 + 1) 104 8 _ (x.l5.filter P).length (cRule (x.l5.filter P)) by have := HO.out; rwa [List.take_of_length_le (by rw [HL5.out]; omega)] at this) (by omega))
      clear HO
      go_wp2_with fail
      go_ret
      exact makes_of_own HO2.out HB.out

end Go.Proofs.Ytfhoemgpilpapaa
