/- Merged: Rif, RifS, FolM, KyS, ESite, FolI, FolS, AskP. -/
import Derived.Test.YtafekceggpbnlaaGreatDBrowser
import Derived.Test.YtafekceggpbnlaaGreatDenied
import Derived.Test.YtafekceggpbnlaaGreatRB
import Derived.Test.YtafekceggpbnlaaGreatFun
import Derived.Test.YtafekceggpbnlaaGreatGB
import Derived.Test.YtafekceggpbnlaaGreatApp
import Derived.Test.YtafekceggpbnlaaGreatReg
import Derived.Handy
import Derived.Deep.LoopGhost
import Derived.WalkMore
import Derived.ScopeJumps
import Derived.Deep.RegionHeld3
import Derived.Test.YtafekceggpbnlaaGreatAct
import Derived.Test.YtafekceggpbnlaaGreatTSite
import Derived.Maps.Own
import Derived.Maps.OwnOps
import Derived.Maps.OwnSet
import Derived.Maps.Views
import Derived.DeepKeys5
import Derived.BigQuiet
import Derived.Deep.QuietTactic
import Derived.WalkSpells
import Derived.Lib.SliceRun
import Derived.Test.YtafekceggpbnlaaGreatROutcome
namespace Go.Proofs.YtafekceggpbnlaaGreat
open Go Go.ChangeShapes Go.WideShapes Go.ChangeAt Go.RowKit Go.Lib
set_option linter.unusedVariables false
set_option linter.unusedSimpArgs false
set_option maxRecDepth 100000
set_option maxHeartbeats 4000000
def mRIF (m : MBrowser) (s : TSite) : List TRule := m.l5.filter fun r => !mDenied m.l4 r.f0 s 3
theorem mRIF_len (m : MBrowser) (s : TSite) : (mRIF m s).length ≤ m.sz := Nat.le_trans (List.length_filter_le _ _) (by simp only [MBrowser.sz]; omega)
theorem rif_filt {α : Type} {p : α → Bool} {l : List α} {k : Nat} {x : α} (h : l[k]? = some x) : (l.take (k + 1)).filter p = if p x = true then (l.take k).filter p ++ [x] else (l.take k).filter p := by
  rw [List.take_add_one, h, Option.toList_some, List.filter_append]
  by_cases hp : p x = true <;> simp [hp]
theorem rif_var (w : World) (t : TypeId) (zs cs : Array Value) : BoxAt ((w.alloc (.cells zs t)).setRow w.heap.size cs) w.heap.size t cs ∧ Below w.heap.size w ((w.alloc (.cells zs t)).setRow w.heap.size cs) :=
  ⟨box_row (box_new w t zs), below_setRow ((Below.refl _ _).alloc (Nat.le_refl _) _) (Nat.le_refl _) _⟩
theorem rif_hit {α : Type} {p : α → Bool} {l : List α} {k : Nat} {x : α} (hz : l[k]? = some x) (h : p x = true) : l.any p = true := List.any_eq_true.2 ⟨x, List.mem_of_getElem? hz, h⟩
set_option maxHeartbeats 8000000 in
theorem impl_RulesInForceC (x : DBrowser) (m : MBrowser) (lo hi : Nat) (s : TSite) (w : World) (hd : x.dat = m) (hz : m.sz ≤ 1048576) (hok : m.ok) (hr : x.rd w lo hi) (hc : x.caps) :
    Calls Tryz.prog 30 #[.agg #[.int .i64 x.p0, .slice x.A1 x.n1 x.c1, .slice x.A2 x.n2 x.c2, .slice x.A3 x.n3 x.c3, .slice x.A4 x.n4 x.c4, .slice x.A5 x.n5 x.c5, .slice x.A6 x.n6 x.c6, .int .i64 x.p7], vSite s] w (Makes 102 8 (mRIF m s).length (cRule (mRIF m s)) w) := by
  subst hd
  have hzs := hz
  rw [hr.sz] at hz
  have hz' : x.n1 + x.n2 + x.n3 + x.n4 + x.n5 + x.n6 ≤ 1048576 := by omega
  have HL5 := Lib.hid hr.len.2.2.2.2.1
  have HL4 := Lib.hid hr.len.2.2.2.1
  have HR5 := Lib.hid hr.2.2.2.2.1.2
  have HR4 := Lib.hid hr.2.2.2.1.2
  have hok4 := hok.2.2.2.2.1
  have HD := Lib.hid (fun (y : TLimit) (hy : y ∈ x.l4) (ext : Int) (V : World) (A1 : Option Addr) (lo hi : Nat) (h : Rd V lo hi 4 A1 1 (cLimit [y])) => impl_IsDeniedC [y] A1 1 1 lo hi ext s 3 V (by decide) h (by decide) (Lib.hid (fun z hz => by simp at hz; subst hz; exact hok4 _ hy)))
  have hn5 : x.n5 ≤ 1048576 := by omega
  have hn4 : x.n4 ≤ 1048576 := by omega
  change Calls _ _ _ _ (Makes 102 8 (x.l5.filter fun r => !mDenied x.l4 r.f0 s 3).length (cRule (x.l5.filter fun r => !mDenied x.l4 r.f0 s 3)) w)
  generalize hP : (fun r : TRule => !mDenied x.l4 r.f0 s 3) = P
  have HP := Lib.hid (show ∀ r, P r = !(x.l4.any (mDeny r.f0 s 3)) by rw [← hP]; intro r; rfl)
  clear hP hr hz hzs hok hc hok4
  generalize x.A5 = A5v at HR5 ⊢
  generalize x.A4 = A4v at HR4 ⊢
  have KB0 : BoxAt ((w.alloc (.cells #[.int .i64 x.p0, .slice x.A1 x.n1 x.c1, .slice x.A2 x.n2 x.c2, .slice x.A3 x.n3 x.c3, .slice A4v x.n4 x.c4, .slice A5v x.n5 x.c5, .slice x.A6 x.n6 x.c6, .int .i64 x.p7] 47)).alloc (.cells #[.int .i64 s.f0, .int .i64 s.f1] 35)) w.heap.size 47 #[.int .i64 x.p0, .slice x.A1 x.n1 x.c1, .slice x.A2 x.n2 x.c2, .slice x.A3 x.n3 x.c3, .slice A4v x.n4 x.c4, .slice A5v x.n5 x.c5, .slice x.A6 x.n6 x.c6, .int .i64 x.p7] := (box_new w 47 #[.int .i64 x.p0, .slice x.A1 x.n1 x.c1, .slice x.A2 x.n2 x.c2, .slice x.A3 x.n3 x.c3, .slice A4v x.n4 x.c4, .slice A5v x.n5 x.c5, .slice x.A6 x.n6 x.c6, .int .i64 x.p7]).alloc_ _
  have KS0 : BoxAt ((w.alloc (.cells #[.int .i64 x.p0, .slice x.A1 x.n1 x.c1, .slice x.A2 x.n2 x.c2, .slice x.A3 x.n3 x.c3, .slice A4v x.n4 x.c4, .slice A5v x.n5 x.c5, .slice x.A6 x.n6 x.c6, .int .i64 x.p7] 47)).alloc (.cells #[.int .i64 s.f0, .int .i64 s.f1] 35)) (w.heap.size + 1) 35 #[.int .i64 s.f0, .int .i64 s.f1] := by simpa using box_new (w.alloc (.cells #[.int .i64 x.p0, .slice x.A1 x.n1 x.c1, .slice x.A2 x.n2 x.c2, .slice x.A3 x.n3 x.c3, .slice A4v x.n4 x.c4, .slice A5v x.n5 x.c5, .slice x.A6 x.n6 x.c6, .int .i64 x.p7] 47)) 35 #[.int .i64 s.f0, .int .i64 s.f1]
  have HO0 := Lib.hid (show (((w.alloc (.cells #[.int .i64 x.p0, .slice x.A1 x.n1 x.c1, .slice x.A2 x.n2 x.c2, .slice x.A3 x.n3 x.c3, .slice A4v x.n4 x.c4, .slice A5v x.n5 x.c5, .slice x.A6 x.n6 x.c6, .int .i64 x.p7] 47)).alloc (.cells #[.int .i64 s.f0, .int .i64 s.f1] 35)).alloc (.cells #[] 102)).ownsRow (w.heap.size + 1 + 1) 102 8 (.slice (some ⟨w.heap.size + 1 + 1, 0, none⟩) 0 0) 0 [] by
    have := World.ownsRow_lit (e := 102) (size := 8) ((w.alloc (.cells #[.int .i64 x.p0, .slice x.A1 x.n1 x.c1, .slice x.A2 x.n2 x.c2, .slice x.A3 x.n3 x.c3, .slice A4v x.n4 x.c4, .slice A5v x.n5 x.c5, .slice x.A6 x.n6 x.c6, .int .i64 x.p7] 47)).alloc (.cells #[.int .i64 s.f0, .int .i64 s.f1] 35)) #[] 0 (Nat.le_refl _) (by unfold maxLen; omega) rfl
    simpa using this)
  replace KB0 := Lib.hid KB0
  replace KS0 := Lib.hid KS0
  go_enter Tryz.func30, Tryz.ntmps30
  go_wp2_with fail
  go_step3
  go_wp2_with fail
  go_step3
  go_wp2_with fail
  go_loopg [5, 14] x.n5 (fun gg v i wr => ∃ (k : Nat) (vv : Value), vv = v ∧ k ≤ x.n5 ∧ x.n5 - k ≤ gg ∧ i = .int .i64 k ∧ Hid (wr.ownsRow (w.heap.size + 1 + 1) 102 8 v ((x.l5.take k).filter P).length (cRule ((x.l5.take k).filter P))) ∧ Hid (BoxAt wr w.heap.size 47 #[.int .i64 x.p0, .slice x.A1 x.n1 x.c1, .slice x.A2 x.n2 x.c2, .slice x.A3 x.n3 x.c3, .slice A4v x.n4 x.c4, .slice A5v x.n5 x.c5, .slice x.A6 x.n6 x.c6, .int .i64 x.p7]) ∧ Hid (BoxAt wr (w.heap.size + 1) 35 #[.int .i64 s.f0, .int .i64 s.f1]) ∧ Hid (Below w.heap.size w wr))
  case atStart => exact ⟨0, _, rfl, Nat.zero_le _, by omega, rfl, HO0, Lib.hid (KB0.out.alloc_ _), Lib.hid (KS0.out.alloc_ _), Lib.hid ((((Below.refl w.heap.size w).alloc (Nat.le_refl _) _).alloc (by simp) _).alloc (by simp <;> omega) _)⟩
  case round =>
    obtain ⟨k, vv, rfl, hk, hg, rfl, HO, KB, KS, HB⟩ := hrel
    obtain ⟨wo, rfl⟩ : ∃ wo : World, wo = wr := ⟨_, rfl⟩
    by_cases hlt : k < x.n5
    · obtain ⟨b, off, r, rfl, _, _, hz, hc⟩ := rd_elem TRule.len (HR5.out.new HB.out) HL5.out hlt
      have c0 : wo.cell? ⟨b, off + k * 8, none⟩ = some (.int .i64 r.f0) := hc 0 _ rfl
      have c1 : wo.cell? ⟨b, off + k * 8 + 1, none⟩ = some (.int .i64 r.f1) := hc 1 _ rfl
      have c2 : wo.cell? ⟨b, off + k * 8 + 2, none⟩ = some (.int .i64 r.f2) := hc 2 _ rfl
      have c3 : wo.cell? ⟨b, off + k * 8 + 3, none⟩ = some (.int .i64 r.f3) := hc 3 _ rfl
      have c4 : wo.cell? ⟨b, off + k * 8 + 4, none⟩ = some (.int .i64 r.f4) := hc 4 _ rfl
      have c5 : wo.cell? ⟨b, off + k * 8 + 5, none⟩ = some (.int .i64 r.f5) := hc 5 _ rfl
      have c6 : wo.cell? ⟨b, off + k * 8 + 6, none⟩ = some (.int .i64 r.f6) := hc 6 _ rfl
      have c7 : wo.cell? ⟨b, off + k * 8 + 7, none⟩ = some (.int .i64 r.f7) := hc 7 _ rfl
      have HN := Lib.hid (Nat.le_trans (List.length_filter_le P (x.l5.take k)) (List.length_take_le _ _))
      have hE := rif_filt (p := P) hz
      rw [HP.out r] at hE
      have HEt := Lib.hid (fun (h : x.l4.any (mDeny r.f0 s 3) = true) => hE.trans (if_neg (by rw [h]; decide)))
      have HEf := Lib.hid (fun (h : x.l4.any (mDeny r.f0 s 3) = false) => hE.trans (if_pos (by rw [h]; decide)))
      clear hE hz hc
      obtain ⟨HV, HBv⟩ := (⟨Lib.hid (rif_var wo 102 #[.int .i64 0, .int .i64 0, .int .i64 0, .int .i64 0, .int .i64 0, .int .i64 0, .int .i64 0, .int .i64 0] #[.int .i64 r.f0, .int .i64 r.f1, .int .i64 r.f2, .int .i64 r.f3, .int .i64 r.f4, .int .i64 r.f5, .int .i64 r.f6, .int .i64 r.f7]).1, Lib.hid (rif_var wo 102 #[.int .i64 0, .int .i64 0, .int .i64 0, .int .i64 0, .int .i64 0, .int .i64 0, .int .i64 0, .int .i64 0] #[.int .i64 r.f0, .int .i64 r.f1, .int .i64 r.f2, .int .i64 r.f3, .int .i64 r.f4, .int .i64 r.f5, .int .i64 r.f6, .int .i64 r.f7]).2⟩ : Hid _ ∧ Hid _)
      have kb5 := KB.out.at_ (j := 5) rfl
      go_wp2_with (refine wpList_store_row rfl 102 _ _ rfl wo.heap.size #[.int .i64 r.f0, .int .i64 r.f1, .int .i64 r.f2, .int .i64 r.f3, .int .i64 r.f4, .int .i64 r.f5, .int .i64 r.f6, .int .i64 r.f7] rfl rfl 102 _ (box_new wo 102 #[.int .i64 0, .int .i64 0, .int .i64 0, .int .i64 0, .int .i64 0, .int .i64 0, .int .i64 0, .int .i64 0]) (by kernel_rfl) (by kernel_rfl) (by kernel_rfl) ?_; generalize World.setRow (wo.alloc (.cells #[.int .i64 0, .int .i64 0, .int .i64 0, .int .i64 0, .int .i64 0, .int .i64 0, .int .i64 0, .int .i64 0] 102)) wo.heap.size #[.int .i64 r.f0, .int .i64 r.f1, .int .i64 r.f2, .int .i64 r.f3, .int .i64 r.f4, .int .i64 r.f5, .int .i64 r.f6, .int .i64 r.f7] = w5 at HV HBv ⊢; (have kb4 := (KB.out.new HBv.out).at_ (j := 4) rfl))
      have HB5 := Lib.hid (below_trans HB.out HBv.out (Nat.le_refl _))
      have HO5 := Lib.hid (own_newer HO.out HBv.out)
      have KB5 := Lib.hid (KB.out.new HBv.out)
      have KS5 := Lib.hid (KS.out.new HBv.out)
      have HRl := Lib.hid (HR4.out.new HB5.out)
      clear c0 c1 c2 c3 c4 c5 c6 c7 HBv HO HB KB KS kb4 kb5
      go_loopg [21] x.n4 (fun g2 j wj => ∃ q : Nat, q ≤ x.n4 ∧ x.n4 - q ≤ g2 ∧ j = .int .i64 q ∧ Hid ((x.l4.take q).any (mDeny r.f0 s 3) = false) ∧ Hid (BoxAt wj wo.heap.size 102 #[.int .i64 r.f0, .int .i64 r.f1, .int .i64 r.f2, .int .i64 r.f3, .int .i64 r.f4, .int .i64 r.f5, .int .i64 r.f6, .int .i64 r.f7]) ∧ Hid (Below w5.heap.size w5 wj))
      case atStart => exact ⟨0, Nat.zero_le _, by omega, rfl, Lib.hid (by simp), HV, Lib.hid (Below.refl _ _)⟩
      case round =>
        obtain ⟨q, hq, hgq, rfl, HF, HVm, HBm⟩ := hrel
        have HO6 := Lib.hid (own_newer HO5.out HBm.out)
        have HB6 := Lib.hid (below_trans HB5.out HBm.out (Nat.le_refl _))
        have KB6 := Lib.hid (KB5.out.new HBm.out)
        have KS6 := Lib.hid (KS5.out.new HBm.out)
        clear HV
        by_cases hlq : q < x.n4
        · obtain ⟨b2, off2, y, hA2, _, _, hz2, hc2⟩ := rd_elem TLimit.len (HRl.out.new HBm.out) HL4.out hlq
          cases hA2
          have d0 : wr.cell? ⟨b2, off2 + q * 4, none⟩ = some (.int .i64 y.f0) := hc2 0 _ rfl
          have d1 : wr.cell? ⟨b2, off2 + q * 4 + 1, none⟩ = some (.int .i64 y.f1) := hc2 1 _ rfl
          have d2 : wr.cell? ⟨b2, off2 + q * 4 + 2, none⟩ = some (.int .i64 y.f2) := hc2 2 _ rfl
          have d3 : wr.cell? ⟨b2, off2 + q * 4 + 3, none⟩ = some (.int .i64 y.f3) := hc2 3 _ rfl
          have HZ2 := Lib.hid hz2
          have hcall := HD.out y (List.mem_of_getElem? hz2) r.f0
          clear hz2 hc2
          obtain ⟨HW, HBw⟩ := (⟨Lib.hid (rif_var wr 122 #[.int .i64 0, .int .i64 0, .int .i64 0, .int .i64 0] #[.int .i64 y.f0, .int .i64 y.f1, .int .i64 y.f2, .int .i64 y.f3]).1, Lib.hid (rif_var wr 122 #[.int .i64 0, .int .i64 0, .int .i64 0, .int .i64 0] #[.int .i64 y.f0, .int .i64 y.f1, .int .i64 y.f2, .int .i64 y.f3]).2⟩ : Hid _ ∧ Hid _)
          have hd1 : mDenied [y] r.f0 s 3 = mDeny r.f0 s 3 y := by simp [mDenied]
          rw [hd1] at hcall
          generalize hdd : mDeny r.f0 s 3 y = dd at hcall
          replace hcall := Lib.hid hcall
          have HVn := Lib.hid (HVm.out.new HBw.out)
          have KSn := Lib.hid (KS6.out.new HBw.out)
          have HEt2 := Lib.hid (fun (h : dd = true) => HEt.out (rif_hit HZ2.out (hdd.trans h)))
          have HEf2 := Lib.hid (fun (h : dd = false) => any_step HF.out HZ2.out (hdd.trans h))
          clear hdd hd1
          go_wp2_with (refine wpList_store_row rfl 122 _ _ rfl wr.heap.size #[.int .i64 y.f0, .int .i64 y.f1, .int .i64 y.f2, .int .i64 y.f3] rfl rfl 122 _ (box_new wr 122 #[.int .i64 0, .int .i64 0, .int .i64 0, .int .i64 0]) (by kernel_rfl) (by kernel_rfl) (by kernel_rfl) ?_; generalize World.setRow (wr.alloc (.cells #[.int .i64 0, .int .i64 0, .int .i64 0, .int .i64 0] 122)) wr.heap.size #[.int .i64 y.f0, .int .i64 y.f1, .int .i64 y.f2, .int .i64 y.f3] = w6 at HW HBw HVn KSn ⊢; (have e0 := HW.out.at_ (j := 0) rfl); (have e1 := HW.out.at_ (j := 1) rfl); (have e2 := HW.out.at_ (j := 2) rfl); (have e3 := HW.out.at_ (j := 3) rfl); (have x0 := HVn.out.at_ (j := 0) rfl); (have s0 := KSn.out.at_ (j := 0) rfl); (have s1 := KSn.out.at_ (j := 1) rfl); (have nx : wo.heap.size < w6.heap.size := HVn.out.lt); (have ny : wr.heap.size < w6.heap.size := HW.out.lt); (have ns : w.heap.size + 1 < w6.heap.size := KSn.out.lt))
          have HLit := Lib.hid (rd_lit w6 #[.int .i64 y.f0, .int .i64 y.f1, .int .i64 y.f2, .int .i64 y.f3] 122 1 4 rfl)
          refine Calls.mono (hcall.out _ _ _ _ (by simpa [cLimit, TLimit.cells] using HLit.out)) ?_
          rintro e w7 ⟨rfl, hb7⟩
          have HB7a := Lib.hid (below_trans (HBw.out.alloc (by have := HBw.out.size; omega) (.cells #[.int .i64 y.f0, .int .i64 y.f1, .int .i64 y.f2, .int .i64 y.f3] 122)) hb7 (by have := HBw.out.size; simp; try omega))
          have HB7 := Lib.hid (below_trans HB6.out HB7a.out (Nat.le_refl _))
          have HO7 := Lib.hid (own_newer HO6.out HB7a.out)
          have HV7 := Lib.hid (HVm.out.new HB7a.out)
          have KB7 := Lib.hid (KB6.out.new HB7a.out)
          have KS7 := Lib.hid (KS6.out.new HB7a.out)
          have HBn := Lib.hid (below_trans HBm.out HB7a.out (Nat.le_refl _))
          clear hb7 HW HBw HVn KSn HLit e0 e1 e2 e3 x0 s0 s1 nx ny ns d0 d1 d2 d3
          cases dd with
          | true =>
            have HE := Lib.hid (HEt2.out rfl)
            clear HEt2 HEf2 HEt HEf
            go_wp2_with fail
            go_roundg (x.n5 - (k + 1))
            case measure => omega
            case rel => exact ⟨k + 1, _, rfl, by omega, by omega, by go_num, by rw [HE.out]; exact HO7, KB7, KS7, HB7⟩
          | false =>
            have HE := Lib.hid (HEf2.out rfl)
            clear HEt2 HEf2
            go_wp2_with fail
            go_roundg (x.n4 - (q + 1))
            case measure => omega
            case rel => exact ⟨q + 1, by omega, by omega, by go_num, HE, HV7, HBn⟩
        · obtain rfl : q = x.n4 := by omega
          have HE := Lib.hid (HEf.out (by have := HF.out; rwa [List.take_of_length_le (by rw [HL4.out]; omega)] at this))
          clear HEt HEf HF
          have e0 := HVm.out.at_ (j := 0) rfl
          have e1 := HVm.out.at_ (j := 1) rfl
          have e2 := HVm.out.at_ (j := 2) rfl
          have e3 := HVm.out.at_ (j := 3) rfl
          have e4 := HVm.out.at_ (j := 4) rfl
          have e5 := HVm.out.at_ (j := 5) rfl
          have e6 := HVm.out.at_ (j := 6) rfl
          have e7 := HVm.out.at_ (j := 7) rfl
          have HS := Lib.hid (show w.heap.size + 1 + 1 ≤ wr.heap.size from KS6.out.lt)
          go_wp2_with (at_builtin; refine wp_app_lit rfl _ _ _ rfl (w.heap.size + 1 + 1) 102 (.agg #[.int .i64 0, .int .i64 0, .int .i64 0, .int .i64 0, .int .i64 0, .int .i64 0, .int .i64 0, .int .i64 0]) 8 64 Tryz.underlying44 infoRule rfl (by decide) _ _ _ rfl HO6.out #[.int .i64 r.f0, .int .i64 r.f1, .int .i64 r.f2, .int .i64 r.f3, .int .i64 r.f4, .int .i64 r.f5, .int .i64 r.f6, .int .i64 r.f7] 1 1 _ rfl (by simp) rfl (onesRule r) (by have := HN.out; unfold maxLen; omega) (by have := HN.out; omega) (by have := HS.out; omega) ?_; intro v1 w8 ho8 hb8)
          have HO8 := Lib.hid (show w8.ownsRow (w.heap.size + 1 + 1) 102 8 v1 ((x.l5.take (k + 1)).filter P).length (cRule ((x.l5.take (k + 1)).filter P)) by rw [HE.out]; simpa [cRule, TRule.cells, List.flatMap_append] using ho8)
          have KB8 := Lib.hid (KB6.out.keep (hb8.block _ (by omega)))
          have KS8 := Lib.hid (KS6.out.keep (hb8.block _ (by omega)))
          have HB8 := Lib.hid (HB6.out.trans (hb8.mono (by omega)))
          clear ho8 hb8 e0 e1 e2 e3 e4 e5 e6 e7
          go_wp2_with fail
          go_roundg (x.n5 - (k + 1))
          case measure => omega
          case rel => exact ⟨k + 1, _, rfl, by omega, by omega, by go_num, HO8, KB8, KS8, HB8⟩
    · obtain rfl : k = x.n5 := by omega
      have HO2 := Lib.hid (own_base (base' := w.heap.size) (show wo.ownsRow (w.heap.size + 1 + 1) 102 8 _ (x.l5.filter P).length (cRule (x.l5.filter P)) by have := HO.out; rwa [List.take_of_length_le (by rw [HL5.out]; omega)] at this) (by omega))
      clear HO
      go_wp2_with fail
      go_ret
      exact makes_of_own HO2.out HB.out

end Go.Proofs.YtafekceggpbnlaaGreat
namespace Go.Proofs.YtafekceggpbnlaaGreat
open Go Go.ChangeShapes Go.WideShapes Go.ChangeAt Go.RowKit Go.Lib
set_option linter.unusedVariables false
set_option linter.unusedSimpArgs false
set_option maxRecDepth 100000
set_option maxHeartbeats 4000000
set_option maxHeartbeats 8000000 in
theorem spec_RulesInForce (x : DBrowser) (m : MBrowser) (lo hi : Nat) (s : TSite) (w : World) (hd : x.dat = m) (hz : m.sz ≤ 1048576) (hok : m.ok) (hr : x.rd w lo hi) (hc : x.caps) :
    Calls Tryz.prog 21 #[.agg #[.int .i64 x.p0, .slice x.A1 x.n1 x.c1, .slice x.A2 x.n2 x.c2, .slice x.A3 x.n3 x.c3, .slice x.A4 x.n4 x.c4, .slice x.A5 x.n5 x.c5, .slice x.A6 x.n6 x.c6, .int .i64 x.p7], vSite s] w (Makes 102 8 (mRIF m s).length (cRule (mRIF m s)) w) := by
  subst hd
  have hzs := hz
  rw [hr.sz] at hz
  have hz' : x.n1 + x.n2 + x.n3 + x.n4 + x.n5 + x.n6 ≤ 1048576 := by omega
  have HL5 := Lib.hid hr.len.2.2.2.2.1
  have HR5 := Lib.hid hr.2.2.2.2.1.2
  have HCd := Lib.hid (fun (ext : Int) W (hb : Below w.heap.size w W) => spec_IsDenied x.l4 x.A4 x.n4 x.c4 lo hi ext s 3 W (by omega) (hr.2.2.2.1.2.new hb) hc.2.1 hok.2.2.2.2.1)
  have hn5 : x.n5 ≤ 1048576 := by omega
  change Calls _ _ _ _ (Makes 102 8 (x.l5.filter fun r => !mDenied x.l4 r.f0 s 3).length (cRule (x.l5.filter fun r => !mDenied x.l4 r.f0 s 3)) w)
  generalize hP : (fun r : TRule => !mDenied x.l4 r.f0 s 3) = P
  have HP := Lib.hid (show ∀ r, P r = !(mDenied x.l4 r.f0 s 3) by rw [← hP]; intro r; rfl)
  clear hP hr hz hzs hok hc
  have KB0 : BoxAt ((w.alloc (.cells #[.int .i64 x.p0, .slice x.A1 x.n1 x.c1, .slice x.A2 x.n2 x.c2, .slice x.A3 x.n3 x.c3, .slice x.A4 x.n4 x.c4, .slice x.A5 x.n5 x.c5, .slice x.A6 x.n6 x.c6, .int .i64 x.p7] 47)).alloc (.cells #[.int .i64 s.f0, .int .i64 s.f1] 35)) w.heap.size 47 #[.int .i64 x.p0, .slice x.A1 x.n1 x.c1, .slice x.A2 x.n2 x.c2, .slice x.A3 x.n3 x.c3, .slice x.A4 x.n4 x.c4, .slice x.A5 x.n5 x.c5, .slice x.A6 x.n6 x.c6, .int .i64 x.p7] := (box_new w 47 #[.int .i64 x.p0, .slice x.A1 x.n1 x.c1, .slice x.A2 x.n2 x.c2, .slice x.A3 x.n3 x.c3, .slice x.A4 x.n4 x.c4, .slice x.A5 x.n5 x.c5, .slice x.A6 x.n6 x.c6, .int .i64 x.p7]).alloc_ _
  have KS0 : BoxAt ((w.alloc (.cells #[.int .i64 x.p0, .slice x.A1 x.n1 x.c1, .slice x.A2 x.n2 x.c2, .slice x.A3 x.n3 x.c3, .slice x.A4 x.n4 x.c4, .slice x.A5 x.n5 x.c5, .slice x.A6 x.n6 x.c6, .int .i64 x.p7] 47)).alloc (.cells #[.int .i64 s.f0, .int .i64 s.f1] 35)) (w.heap.size + 1) 35 #[.int .i64 s.f0, .int .i64 s.f1] := by simpa using box_new (w.alloc (.cells #[.int .i64 x.p0, .slice x.A1 x.n1 x.c1, .slice x.A2 x.n2 x.c2, .slice x.A3 x.n3 x.c3, .slice x.A4 x.n4 x.c4, .slice x.A5 x.n5 x.c5, .slice x.A6 x.n6 x.c6, .int .i64 x.p7] 47)) 35 #[.int .i64 s.f0, .int .i64 s.f1]
  have HO0 := Lib.hid (show (((w.alloc (.cells #[.int .i64 x.p0, .slice x.A1 x.n1 x.c1, .slice x.A2 x.n2 x.c2, .slice x.A3 x.n3 x.c3, .slice x.A4 x.n4 x.c4, .slice x.A5 x.n5 x.c5, .slice x.A6 x.n6 x.c6, .int .i64 x.p7] 47)).alloc (.cells #[.int .i64 s.f0, .int .i64 s.f1] 35)).alloc (.cells #[] 102)).ownsRow (w.heap.size + 1 + 1) 102 8 (.slice (some ⟨w.heap.size + 1 + 1, 0, none⟩) 0 0) 0 [] by
    have := World.ownsRow_lit (e := 102) (size := 8) ((w.alloc (.cells #[.int .i64 x.p0, .slice x.A1 x.n1 x.c1, .slice x.A2 x.n2 x.c2, .slice x.A3 x.n3 x.c3, .slice x.A4 x.n4 x.c4, .slice x.A5 x.n5 x.c5, .slice x.A6 x.n6 x.c6, .int .i64 x.p7] 47)).alloc (.cells #[.int .i64 s.f0, .int .i64 s.f1] 35)) #[] 0 (Nat.le_refl _) (by unfold maxLen; omega) rfl
    simpa using this)
  replace KB0 := Lib.hid KB0
  replace KS0 := Lib.hid KS0
  go_enter Tryz.func21, Tryz.ntmps21
  go_wp2_with fail
  go_loopg [5, 6] x.n5 (fun gg v i wr => ∃ k : Nat, k ≤ x.n5 ∧ x.n5 - k ≤ gg ∧ i = .int .i64 k ∧ Hid (wr.ownsRow (w.heap.size + 1 + 1) 102 8 v ((x.l5.take k).filter P).length (cRule ((x.l5.take k).filter P))) ∧ Hid (BoxAt wr w.heap.size 47 #[.int .i64 x.p0, .slice x.A1 x.n1 x.c1, .slice x.A2 x.n2 x.c2, .slice x.A3 x.n3 x.c3, .slice x.A4 x.n4 x.c4, .slice x.A5 x.n5 x.c5, .slice x.A6 x.n6 x.c6, .int .i64 x.p7]) ∧ Hid (BoxAt wr (w.heap.size + 1) 35 #[.int .i64 s.f0, .int .i64 s.f1]) ∧ Hid (Below w.heap.size w wr))
  case atStart => exact ⟨0, Nat.zero_le _, by omega, rfl, HO0, Lib.hid (KB0.out.alloc_ _), Lib.hid (KS0.out.alloc_ _), Lib.hid ((((Below.refl w.heap.size w).alloc (Nat.le_refl _) _).alloc (by simp) _).alloc (by simp <;> omega) _)⟩
  case round =>
    obtain ⟨k, hk, hg, rfl, HO, KB, KS, HB⟩ := hrel
    have k0 : wr.cell? ⟨w.heap.size, 0, none⟩ = some (.int .i64 x.p0) := KB.out.at_ rfl
    have k1 : wr.cell? ⟨w.heap.size, 1, none⟩ = some (.slice x.A1 x.n1 x.c1) := KB.out.at_ rfl
    have k2 : wr.cell? ⟨w.heap.size, 2, none⟩ = some (.slice x.A2 x.n2 x.c2) := KB.out.at_ rfl
    have k3 : wr.cell? ⟨w.heap.size, 3, none⟩ = some (.slice x.A3 x.n3 x.c3) := KB.out.at_ rfl
    have k4 : wr.cell? ⟨w.heap.size, 4, none⟩ = some (.slice x.A4 x.n4 x.c4) := KB.out.at_ rfl
    have k5 : wr.cell? ⟨w.heap.size, 5, none⟩ = some (.slice x.A5 x.n5 x.c5) := KB.out.at_ rfl
    have k6 : wr.cell? ⟨w.heap.size, 6, none⟩ = some (.slice x.A6 x.n6 x.c6) := KB.out.at_ rfl
    have k7 : wr.cell? ⟨w.heap.size, 7, none⟩ = some (.int .i64 x.p7) := KB.out.at_ rfl
    by_cases hlt : k < x.n5
    · obtain ⟨b, off, r, hA, _, _, hz, hc⟩ := rd_elem TRule.len (HR5.out.new HB.out) HL5.out hlt
      rw [hA] at k5
      have c0 : wr.cell? ⟨b, off + k * 8, none⟩ = some (.int .i64 r.f0) := hc 0 _ rfl
      have c1 : wr.cell? ⟨b, off + k * 8 + 1, none⟩ = some (.int .i64 r.f1) := hc 1 _ rfl
      have c2 : wr.cell? ⟨b, off + k * 8 + 2, none⟩ = some (.int .i64 r.f2) := hc 2 _ rfl
      have c3 : wr.cell? ⟨b, off + k * 8 + 3, none⟩ = some (.int .i64 r.f3) := hc 3 _ rfl
      have c4 : wr.cell? ⟨b, off + k * 8 + 4, none⟩ = some (.int .i64 r.f4) := hc 4 _ rfl
      have c5 : wr.cell? ⟨b, off + k * 8 + 5, none⟩ = some (.int .i64 r.f5) := hc 5 _ rfl
      have c6 : wr.cell? ⟨b, off + k * 8 + 6, none⟩ = some (.int .i64 r.f6) := hc 6 _ rfl
      have c7 : wr.cell? ⟨b, off + k * 8 + 7, none⟩ = some (.int .i64 r.f7) := hc 7 _ rfl
      have HN := Lib.hid (Nat.le_trans (List.length_filter_le P (x.l5.take k)) (List.length_take_le _ _))
      have hE := rif_filt (p := P) hz
      rw [HP.out r] at hE
      have hCk := fun W (hb : Below wr.heap.size wr W) => HCd.out r.f0 W (below_trans HB.out hb (Nat.le_refl _))
      generalize mDenied x.l4 r.f0 s 3 = dd at hE hCk
      have HCk := Lib.hid hCk
      have HE := Lib.hid hE
      have KA2 := Lib.hid (show BoxAt wr.drew w.heap.size 47 #[.int .i64 x.p0, .slice x.A1 x.n1 x.c1, .slice x.A2 x.n2 x.c2, .slice x.A3 x.n3 x.c3, .slice x.A4 x.n4 x.c4, .slice (some ⟨b, off, none⟩) x.n5 x.c5, .slice x.A6 x.n6 x.c6, .int .i64 x.p7] by have h := KB.out.drw; rwa [hA] at h)
      have KS2 := Lib.hid KS.out.drw
      replace hA := Lib.hid hA
      clear hz hc hE hCk
      go_wp2_with fail
      clear k0 k1 k2 k3 k4 k5 k6 k7
      refine wp_region_held_drew (S := fun w' => BoxAt w' w.heap.size 47 #[.int .i64 x.p0, .slice x.A1 x.n1 x.c1, .slice x.A2 x.n2 x.c2, .slice x.A3 x.n3 x.c3, .slice x.A4 x.n4 x.c4, .slice (some ⟨b, off, none⟩) x.n5 x.c5, .slice x.A6 x.n6 x.c6, .int .i64 x.p7] ∧ BoxAt w' (w.heap.size + 1) 35 #[.int .i64 s.f0, .int .i64 s.f1] ∧ Below wr.heap.size wr w') (by kernel_rfl) ?_ (fun hHeld => ?_)
      · exact ⟨KA2.out, KS2.out, (Below.refl _ _).drew⟩
      refine wpAnyH_take (i := 0) (oi := ⟨some 15, _, _, _, _, _⟩) (v := ?_) rfl (by kernel_rfl) (by kernel_rfl) (by kernel_rfl) (fun _ _ _ h => h) (Or.inl ⟨by kernel_rfl, ?_⟩) hHeld ?_
      rotate_left
      focus (intro W hS; have c0_0 := (hS.1).at_ (j := 0) rfl; have c0_1 := (hS.1).at_ (j := 1) rfl; have c0_2 := (hS.1).at_ (j := 2) rfl; have c0_3 := (hS.1).at_ (j := 3) rfl; have c0_4 := (hS.1).at_ (j := 4) rfl; have c0_5 := (hS.1).at_ (j := 5) rfl; have c0_6 := (hS.1).at_ (j := 6) rfl; have c0_7 := (hS.1).at_ (j := 7) rfl; have c1_0 := (hS.2.1).at_ (j := 0) rfl; have c1_1 := (hS.2.1).at_ (j := 1) rfl; have c0' := cell_nw hS.2.2 c0; clear hS; first | (go_simp; done) | (go_simp; with_reducible rfl))
      try simp only [Act.put, List.setIfInBounds_toArray, List.set_cons_zero, List.set_cons_succ]
      refine wpAnyH_take (i := 1) (oi := ⟨some 16, _, _, _, _, _⟩) (v := ?_) rfl (by kernel_rfl) (by kernel_rfl) (by kernel_rfl) (fun _ _ _ h => h) (Or.inl ⟨by kernel_rfl, ?_⟩) hHeld ?_
      rotate_left
      focus (intro W hS; have c0_0 := (hS.1).at_ (j := 0) rfl; have c0_1 := (hS.1).at_ (j := 1) rfl; have c0_2 := (hS.1).at_ (j := 2) rfl; have c0_3 := (hS.1).at_ (j := 3) rfl; have c0_4 := (hS.1).at_ (j := 4) rfl; have c0_5 := (hS.1).at_ (j := 5) rfl; have c0_6 := (hS.1).at_ (j := 6) rfl; have c0_7 := (hS.1).at_ (j := 7) rfl; have c1_0 := (hS.2.1).at_ (j := 0) rfl; have c1_1 := (hS.2.1).at_ (j := 1) rfl; have c0' := cell_nw hS.2.2 c0; clear hS; first | (go_simp; done) | (go_simp; with_reducible rfl))
      try simp only [Act.put, List.setIfInBounds_toArray, List.set_cons_zero, List.set_cons_succ]
      refine wpAnyH_take (i := 2) (oi := ⟨some 17, _, _, _, _, _⟩) (v := ?_) rfl (by kernel_rfl) (by kernel_rfl) (by kernel_rfl) (fun _ _ _ h => h) (Or.inl ⟨by kernel_rfl, ?_⟩) hHeld ?_
      rotate_left
      focus (intro W hS; have c0_0 := (hS.1).at_ (j := 0) rfl; have c0_1 := (hS.1).at_ (j := 1) rfl; have c0_2 := (hS.1).at_ (j := 2) rfl; have c0_3 := (hS.1).at_ (j := 3) rfl; have c0_4 := (hS.1).at_ (j := 4) rfl; have c0_5 := (hS.1).at_ (j := 5) rfl; have c0_6 := (hS.1).at_ (j := 6) rfl; have c0_7 := (hS.1).at_ (j := 7) rfl; have c1_0 := (hS.2.1).at_ (j := 0) rfl; have c1_1 := (hS.2.1).at_ (j := 1) rfl; have c0' := cell_nw hS.2.2 c0; clear hS; first | (go_simp; done) | (go_simp; with_reducible rfl))
      try simp only [Act.put, List.setIfInBounds_toArray, List.set_cons_zero, List.set_cons_succ]
      refine wpAnyH_take (i := 3) (oi := ⟨some 18, _, _, _, _, _⟩) (v := ?_) rfl (by kernel_rfl) (by kernel_rfl) (by kernel_rfl) (fun _ _ _ h => h) (Or.inl ⟨by kernel_rfl, ?_⟩) hHeld ?_
      rotate_left
      focus (intro W hS; have c0_0 := (hS.1).at_ (j := 0) rfl; have c0_1 := (hS.1).at_ (j := 1) rfl; have c0_2 := (hS.1).at_ (j := 2) rfl; have c0_3 := (hS.1).at_ (j := 3) rfl; have c0_4 := (hS.1).at_ (j := 4) rfl; have c0_5 := (hS.1).at_ (j := 5) rfl; have c0_6 := (hS.1).at_ (j := 6) rfl; have c0_7 := (hS.1).at_ (j := 7) rfl; have c1_0 := (hS.2.1).at_ (j := 0) rfl; have c1_1 := (hS.2.1).at_ (j := 1) rfl; have c0' := cell_nw hS.2.2 c0; clear hS; first | (go_simp; done) | (go_simp; with_reducible rfl))
      try simp only [Act.put, List.setIfInBounds_toArray, List.set_cons_zero, List.set_cons_succ]
      refine wpAnyH_take (i := 4) (oi := ⟨some 19, _, _, _, _, _⟩) (v := ?_) rfl (by kernel_rfl) (by kernel_rfl) (by kernel_rfl) (fun _ _ _ h => h) (Or.inl ⟨by kernel_rfl, ?_⟩) hHeld ?_
      rotate_left
      focus (intro W hS; have c0_0 := (hS.1).at_ (j := 0) rfl; have c0_1 := (hS.1).at_ (j := 1) rfl; have c0_2 := (hS.1).at_ (j := 2) rfl; have c0_3 := (hS.1).at_ (j := 3) rfl; have c0_4 := (hS.1).at_ (j := 4) rfl; have c0_5 := (hS.1).at_ (j := 5) rfl; have c0_6 := (hS.1).at_ (j := 6) rfl; have c0_7 := (hS.1).at_ (j := 7) rfl; have c1_0 := (hS.2.1).at_ (j := 0) rfl; have c1_1 := (hS.2.1).at_ (j := 1) rfl; have c0' := cell_nw hS.2.2 c0; clear hS; first | (go_simp; done) | (go_simp; with_reducible rfl))
      try simp only [Act.put, List.setIfInBounds_toArray, List.set_cons_zero, List.set_cons_succ]
      refine wpAnyH_take (i := 5) (oi := ⟨some 20, _, _, _, _, _⟩) (v := ?_) rfl (by kernel_rfl) (by kernel_rfl) (by kernel_rfl) (fun _ _ _ h => h) (Or.inl ⟨by kernel_rfl, ?_⟩) hHeld ?_
      rotate_left
      focus (intro W hS; have c0_0 := (hS.1).at_ (j := 0) rfl; have c0_1 := (hS.1).at_ (j := 1) rfl; have c0_2 := (hS.1).at_ (j := 2) rfl; have c0_3 := (hS.1).at_ (j := 3) rfl; have c0_4 := (hS.1).at_ (j := 4) rfl; have c0_5 := (hS.1).at_ (j := 5) rfl; have c0_6 := (hS.1).at_ (j := 6) rfl; have c0_7 := (hS.1).at_ (j := 7) rfl; have c1_0 := (hS.2.1).at_ (j := 0) rfl; have c1_1 := (hS.2.1).at_ (j := 1) rfl; have c0' := cell_nw hS.2.2 c0; clear hS; first | (go_simp; done) | (go_simp; with_reducible rfl))
      try simp only [Act.put, List.setIfInBounds_toArray, List.set_cons_zero, List.set_cons_succ]
      refine wpAnyH_take (i := 6) (oi := ⟨some 21, _, _, _, _, _⟩) (v := ?_) rfl (by kernel_rfl) (by kernel_rfl) (by kernel_rfl) (fun _ _ _ h => h) (Or.inl ⟨by kernel_rfl, ?_⟩) hHeld ?_
      rotate_left
      focus (intro W hS; have c0_0 := (hS.1).at_ (j := 0) rfl; have c0_1 := (hS.1).at_ (j := 1) rfl; have c0_2 := (hS.1).at_ (j := 2) rfl; have c0_3 := (hS.1).at_ (j := 3) rfl; have c0_4 := (hS.1).at_ (j := 4) rfl; have c0_5 := (hS.1).at_ (j := 5) rfl; have c0_6 := (hS.1).at_ (j := 6) rfl; have c0_7 := (hS.1).at_ (j := 7) rfl; have c1_0 := (hS.2.1).at_ (j := 0) rfl; have c1_1 := (hS.2.1).at_ (j := 1) rfl; have c0' := cell_nw hS.2.2 c0; clear hS; first | (go_simp; done) | (go_simp; with_reducible rfl))
      try simp only [Act.put, List.setIfInBounds_toArray, List.set_cons_zero, List.set_cons_succ]
      refine wpAnyH_take (i := 7) (oi := ⟨some 22, _, _, _, _, _⟩) (v := ?_) rfl (by kernel_rfl) (by kernel_rfl) (by kernel_rfl) (fun _ _ _ h => h) (Or.inl ⟨by kernel_rfl, ?_⟩) hHeld ?_
      rotate_left
      focus (intro W hS; have c0_0 := (hS.1).at_ (j := 0) rfl; have c0_1 := (hS.1).at_ (j := 1) rfl; have c0_2 := (hS.1).at_ (j := 2) rfl; have c0_3 := (hS.1).at_ (j := 3) rfl; have c0_4 := (hS.1).at_ (j := 4) rfl; have c0_5 := (hS.1).at_ (j := 5) rfl; have c0_6 := (hS.1).at_ (j := 6) rfl; have c0_7 := (hS.1).at_ (j := 7) rfl; have c1_0 := (hS.2.1).at_ (j := 0) rfl; have c1_1 := (hS.2.1).at_ (j := 1) rfl; have c0' := cell_nw hS.2.2 c0; clear hS; first | (go_simp; done) | (go_simp; with_reducible rfl))
      try simp only [Act.put, List.setIfInBounds_toArray, List.set_cons_zero, List.set_cons_succ]
      refine wpAnyH_take (i := 8) (oi := ⟨some 23, _, _, _, _, _⟩) (v := ?_) rfl (by kernel_rfl) (by kernel_rfl) (by kernel_rfl) (fun _ _ _ h => h) (Or.inl ⟨by kernel_rfl, ?_⟩) hHeld ?_
      rotate_left
      focus (intro W hS; have c0_0 := (hS.1).at_ (j := 0) rfl; have c0_1 := (hS.1).at_ (j := 1) rfl; have c0_2 := (hS.1).at_ (j := 2) rfl; have c0_3 := (hS.1).at_ (j := 3) rfl; have c0_4 := (hS.1).at_ (j := 4) rfl; have c0_5 := (hS.1).at_ (j := 5) rfl; have c0_6 := (hS.1).at_ (j := 6) rfl; have c0_7 := (hS.1).at_ (j := 7) rfl; have c1_0 := (hS.2.1).at_ (j := 0) rfl; have c1_1 := (hS.2.1).at_ (j := 1) rfl; have c0' := cell_nw hS.2.2 c0; clear hS; first | (go_simp; done) | (go_simp; with_reducible rfl))
      try simp only [Act.put, List.setIfInBounds_toArray, List.set_cons_zero, List.set_cons_succ]
      refine wpAnyH_ready (rs := [9]) (by kernel_rfl) (by simp) ?_
      refine AllReadyH.cons (o := ⟨some 24, _, _, _, _, _⟩) rfl (fun K hK => ?_) AllReadyH.nil
      go_simp
      refine Calls.mono (HCk.out _ hHeld.2.2) ?_
      rintro e x1 ⟨rfl, hb1⟩
      refine hK.out _ _ ⟨hHeld.1.new hb1, hHeld.2.1.new hb1, below_trans hHeld.2.2 hb1 (Nat.le_refl _)⟩ (fun hHeld' => ?_)
      clear hK K hHeld hb1
      have hHeld := hHeld'
      clear hHeld'
      try simp only [Act.put, List.setIfInBounds_toArray, List.set_cons_zero, List.set_cons_succ]
      refine wpAnyH_take (i := 10) (oi := ⟨some 25, _, _, _, _, _⟩) (v := ?_) rfl (by kernel_rfl) (by kernel_rfl) (by kernel_rfl) (fun _ _ _ h => h) (Or.inl ⟨by kernel_rfl, ?_⟩) hHeld ?_
      rotate_left
      focus (intro W hS; have c0_0 := (hS.1).at_ (j := 0) rfl; have c0_1 := (hS.1).at_ (j := 1) rfl; have c0_2 := (hS.1).at_ (j := 2) rfl; have c0_3 := (hS.1).at_ (j := 3) rfl; have c0_4 := (hS.1).at_ (j := 4) rfl; have c0_5 := (hS.1).at_ (j := 5) rfl; have c0_6 := (hS.1).at_ (j := 6) rfl; have c0_7 := (hS.1).at_ (j := 7) rfl; have c1_0 := (hS.2.1).at_ (j := 0) rfl; have c1_1 := (hS.2.1).at_ (j := 1) rfl; have c0' := cell_nw hS.2.2 c0; clear hS; first | (go_simp; done) | (go_simp; with_reducible rfl))
      try simp only [Act.put, List.setIfInBounds_toArray, List.set_cons_zero, List.set_cons_succ]
      refine wpAnyH_done (by kernel_rfl) ?_ _
      skip
      have KA2 := Lib.hid hHeld.1
      have KS2 := Lib.hid hHeld.2.1
      have HBl := hHeld.2.2
      have KA3 := Lib.hid (show BoxAt x1 w.heap.size 47 #[.int .i64 x.p0, .slice x.A1 x.n1 x.c1, .slice x.A2 x.n2 x.c2, .slice x.A3 x.n3 x.c3, .slice x.A4 x.n4 x.c4, .slice x.A5 x.n5 x.c5, .slice x.A6 x.n6 x.c6, .int .i64 x.p7] by rw [hA.out]; exact KA2.out)
      have HB3 := Lib.hid (below_trans HB.out HBl (Nat.le_refl _))
      have HO3 := Lib.hid (own_newer HO.out HBl)
      have HS3 := Lib.hid (show w.heap.size + 1 + 1 ≤ x1.heap.size from KS2.out.lt)
      have k5 := KA2.out.at_ (j := 5) rfl
      have e0 := cell_nw HBl c0
      have e1 := cell_nw HBl c1
      have e2 := cell_nw HBl c2
      have e3 := cell_nw HBl c3
      have e4 := cell_nw HBl c4
      have e5 := cell_nw HBl c5
      have e6 := cell_nw HBl c6
      have e7 := cell_nw HBl c7
      clear hHeld HBl c0 c1 c2 c3 c4 c5 c6 c7
      cases dd with
      | true =>
        have H2 := Lib.hid (by have := HE.out; rwa [if_neg (by decide)] at this)
        clear HE
        go_wp2_with fail
        go_roundg (x.n5 - (k + 1))
        case measure => omega
        case rel => exact ⟨k + 1, by omega, by omega, by go_num, by rw [H2.out]; exact HO3, KA3, KS2, HB3⟩
      | false =>
        have H2 := Lib.hid (by have := HE.out; rwa [if_pos (by decide)] at this)
        clear HE
        go_wp2_with (at_builtin; refine wp_app_lit rfl _ _ _ rfl (w.heap.size + 1 + 1) 102 (.agg #[.int .i64 0, .int .i64 0, .int .i64 0, .int .i64 0, .int .i64 0, .int .i64 0, .int .i64 0, .int .i64 0]) 8 64 Tryz.underlying44 infoRule rfl (by decide) _ _ _ rfl HO3.out #[.int .i64 r.f0, .int .i64 r.f1, .int .i64 r.f2, .int .i64 r.f3, .int .i64 r.f4, .int .i64 r.f5, .int .i64 r.f6, .int .i64 r.f7] 1 1 _ rfl (by simp) rfl (onesRule r) (by have := HN.out; unfold maxLen; omega) (by have := HN.out; omega) (by have := HS3.out; omega) ?_; intro v1 w8 ho8 hb8)
        have HO8 := Lib.hid (show w8.ownsRow (w.heap.size + 1 + 1) 102 8 v1 ((x.l5.take (k + 1)).filter P).length (cRule ((x.l5.take (k + 1)).filter P)) by rw [H2.out]; simpa [cRule, TRule.cells, List.flatMap_append] using ho8)
        have KB8 := Lib.hid (KA3.out.keep (hb8.block _ (by omega)))
        have KS8 := Lib.hid (KS2.out.keep (hb8.block _ (by omega)))
        have HB8 := Lib.hid (HB3.out.trans (hb8.mono (by omega)))
        clear ho8 hb8 e0 e1 e2 e3 e4 e5 e6 e7 k5
        go_wp2_with fail
        go_roundg (x.n5 - (k + 1))
        case measure => omega
        case rel => exact ⟨k + 1, by omega, by omega, by go_num, HO8, KB8, KS8, HB8⟩
    · obtain rfl : k = x.n5 := by omega
      have HO2 := Lib.hid (own_base (base' := w.heap.size) (show wr.ownsRow (w.heap.size + 1 + 1) 102 8 _ (x.l5.filter P).length (cRule (x.l5.filter P)) by have := HO.out; rwa [List.take_of_length_le (by rw [HL5.out]; omega)] at this) (by omega))
      clear HO
      go_wp2_with fail
      go_ret
      exact makes_of_own HO2.out HB.out

end Go.Proofs.YtafekceggpbnlaaGreat
namespace Go.Proofs.YtafekceggpbnlaaGreat
open Go Go.ChangeShapes Go.WideShapes Go.ChangeAt Go.RowKit Go.Lib
set_option linter.unusedVariables false
set_option linter.unusedSimpArgs false
set_option maxRecDepth 100000

/-- A code, a site and a path. -/
structure TOut where
  c : Int
  s : TSite
  p : List TSite
def reqAt (s : TSite) (k : Int) : TRequest := ⟨s.f0, s.f1, k⟩
def toOf (r : TRule) : TSite := ⟨r.f6, r.f7⟩
/-- The chain from a site, behind a path, in at most so many steps. -/
def fol (l : List TRule) (k : Int) : Nat → List TSite → TSite → TOut
  | 0, p, s => ⟨0, s, p⟩
  | f + 1, p, s => if s ∈ p then ⟨3, s, p⟩ else if p.length = 6 then ⟨4, s, p⟩
    else if mDecides l (reqAt s k) = false ∨ (mGot l (reqAt s k)).f5 = 1 then ⟨1, s, p ++ [s]⟩
    else if (mGot l (reqAt s k)).f5 = 2 then ⟨2, s, p ++ [s]⟩
    else fol l k f (p ++ [s]) (toOf (mGot l (reqAt s k)))
def mFol (l : List TRule) (q : TRequest) : TOut := if mIsRequest q = true then fol l q.f2 7 [] ⟨q.f0, q.f1⟩ else ⟨0, ⟨0, 0⟩, []⟩
theorem fol_len (l : List TRule) (k : Int) : ∀ (f : Nat) (p : List TSite) (s : TSite), p.length ≤ 6 → (fol l k f p s).p.length ≤ 6 := by
  intro f
  induction f with
  | zero => intro p s h; exact h
  | succ f ih =>
    intro p s h
    unfold fol
    split
    · exact h
    · split
      · exact h
      · split
        · simp; omega
        · split
          · simp; omega
          · exact ih _ _ (by simp; omega)
theorem mFol_len (l : List TRule) (q : TRequest) : (mFol l q).p.length ≤ 6 := by
  unfold mFol
  split
  · exact fol_len _ _ _ _ _ (by simp)
  · simp
section
variable {l : List TRule} {k : Int} {f : Nat} {p : List TSite} {s : TSite} {R : TOut}
theorem fol_loop (h : fol l k (f + 1) p s = R) (hm : s ∈ p) : R = ⟨3, s, p⟩ := by unfold fol at h; rw [if_pos hm] at h; exact h.symm
theorem fol_long (h : fol l k (f + 1) p s = R) (hm : ¬ s ∈ p) (hl : p.length = 6) : R = ⟨4, s, p⟩ := by unfold fol at h; rw [if_neg hm, if_pos hl] at h; exact h.symm
theorem fol_done (h : fol l k (f + 1) p s = R) (hm : ¬ s ∈ p) (hl : ¬ p.length = 6) (hd : mDecides l (reqAt s k) = false ∨ (mGot l (reqAt s k)).f5 = 1) : R = ⟨1, s, p ++ [s]⟩ := by unfold fol at h; rw [if_neg hm, if_neg hl, if_pos hd] at h; exact h.symm
theorem fol_stop (h : fol l k (f + 1) p s = R) (hm : ¬ s ∈ p) (hl : ¬ p.length = 6) (hd : mDecides l (reqAt s k) = true) (h1 : ¬ (mGot l (reqAt s k)).f5 = 1) (h2 : (mGot l (reqAt s k)).f5 = 2) : R = ⟨2, s, p ++ [s]⟩ := by
  unfold fol at h; rw [if_neg hm, if_neg hl, if_neg (by rw [hd]; simp [h1]), if_pos h2] at h; exact h.symm
theorem fol_on (h : fol l k (f + 1) p s = R) (hm : ¬ s ∈ p) (hl : ¬ p.length = 6) (hd : mDecides l (reqAt s k) = true) (h1 : ¬ (mGot l (reqAt s k)).f5 = 1) (h2 : ¬ (mGot l (reqAt s k)).f5 = 2) : fol l k f (p ++ [s]) (toOf (mGot l (reqAt s k))) = R := by
  unfold fol at h; rwa [if_neg hm, if_neg hl, if_neg (by rw [hd]; simp [h1]), if_neg h2] at h
end
theorem got_mem {l : List TRule} {q : TRequest} (h : mDecides l q = true) : mGot l q ∈ l := by
  unfold mDecides at h
  have h0 := of_decide_eq_true h
  have hb := decide_bd l q
  unfold mGot
  rw [if_neg (by omega)]
  have hlt : (mDecide l q).toNat < l.length := by omega
  rw [List.getElem?_eq_getElem hlt]
  exact List.getElem_mem hlt
theorem to_fit {l : List TRule} {q : TRequest} (hok : cRuleOk l) (h : mDecides l q = true) : (toOf (mGot l q)).fit := by
  have := hok _ (got_mem h)
  exact ⟨this.2.2.2.2.2.2.1, this.2.2.2.2.2.2.2⟩
theorem best_has {α : Type} {p : α → Bool} {lt : α → α → Bool} {l : List α} : ∀ k : Nat, bestOf p lt l k = -1 ∨ ∃ (m : Nat) (x : α), bestOf p lt l k = m ∧ l[m]? = some x ∧ p x = true := by
  intro k
  induction k with
  | zero => left; rfl
  | succ k ih =>
    cases hx : l[k]? with
    | none =>
      rw [bestOf, hx]
      exact ih
    | some x =>
      cases hp : p x with
      | false => rw [best_no hx hp]; exact ih
      | true =>
        rw [bestOf, hx]
        simp only
        generalize (p x && _) = b
        cases b with
        | true => exact .inr ⟨k, x, rfl, hx, hp⟩
        | false => exact ih
theorem got_applies {l : List TRule} {q : TRequest} (h : mDecides l q = true) : mApplies (mGot l q) q = true := by
  unfold mDecides at h
  have h0 := of_decide_eq_true h
  rcases best_has (p := fun r => mApplies r q) (lt := mIsBefore) (l := l) l.length with hb | ⟨m, x, hb, hx, hp⟩
  · unfold mDecide at h0; omega
  · have hg := (got_yes (l := l) (q := q) (m := m) (y := x) hb hx).1
    rw [hg]; exact hp
/-- Where the rule that decides sends the request on, there is a site, and the request stays valid. -/
theorem got_send {l : List TRule} {s : TSite} {k : Int} (h : mDecides l (reqAt s k) = true) (h1 : ¬ (mGot l (reqAt s k)).f5 = 1) (h2 : ¬ (mGot l (reqAt s k)).f5 = 2) :
    mIsRequest (reqAt (toOf (mGot l (reqAt s k))) k) = true := by
  have ha := got_applies h
  unfold mApplies at ha
  simp only [Bool.and_eq_true] at ha
  obtain ⟨⟨⟨hr, hq⟩, _⟩, _⟩ := ha
  unfold mIsRule at hr
  simp only [Bool.and_eq_true] at hr
  obtain ⟨⟨_, h5⟩, h3⟩ := hr
  have := inR_true.1 h5
  have e3 : ((mGot l (reqAt s k)).f5 == 3) = true := by simp; omega
  rw [e3] at h3
  simp at h3
  unfold mIsRequest at hq ⊢
  simp only [Bool.and_eq_true] at hq ⊢
  exact ⟨h3, hq.2⟩
end Go.Proofs.YtafekceggpbnlaaGreat
namespace Go.Proofs.YtafekceggpbnlaaGreat
open Go Go.ChangeShapes Go.WideShapes Go.ChangeAt Go.RowKit Go.Lib Go.Maps
set_option linter.unusedVariables false
set_option linter.unusedSimpArgs false
set_option maxRecDepth 100000

theorem keyed_site : Keyed Tryz.prog 35 := Keyed.of_law (deep_law_gate (by kernel_rfl) (by decide +kernel) (by decide +kernel) (by kernel_rfl) (by kernel_rfl))
def KS (x : TSite) : Lit := .string (keyBytes [.int .i64 x.f0, .int .i64 x.f1])
theorem keyS_int (d : Nat) (a : Int) (h : (Lit.int .i64 a).wf = true) : Tryz.prog.keyLits (d + 1) 3 [.int .i64 a] = some [.int .i64 a] := by
  unfold Program.keyLits
  rw [Tryz.underlying3]
  simp only [true_and]
  rw [if_pos h]
theorem keyS (x : TSite) (hx : x.fit) : keyOf Tryz.prog 35 (.agg #[.int .i64 x.f0, .int .i64 x.f1]) = some (KS x) := by
  have ha : (Lit.int .i64 x.f0).wf = true := WalkArith.wf_i64 hx.1
  have hb : (Lit.int .i64 x.f1).wf = true := WalkArith.wf_i64 hx.2
  have hu := Tryz.underlying35
  have hk : Tryz.prog.keyType 35 = true := by kernel_rfl
  have h3 : Tryz.prog.cellsOf 35 = 2 := by kernel_rfl
  have h1 : Tryz.prog.cellsOf 3 = 1 := by kernel_rfl
  have hf : (Value.agg #[.int .i64 x.f0, .int .i64 x.f1]).formed Tryz.prog 35 = true := by
    unfold Value.formed
    simp only [hu, h3]; rfl
  have hts : 1 ≤ Tryz.prog.types.size := by decide +kernel
  obtain ⟨m, hm⟩ : ∃ m, Tryz.prog.types.size + 1 = m + 2 := ⟨Tryz.prog.types.size - 1, by omega⟩
  have hl : Tryz.prog.keyLits (Tryz.prog.types.size + 1) 35 (Value.agg #[.int .i64 x.f0, .int .i64 x.f1]).cells.toList = some [.int .i64 x.f0, .int .i64 x.f1] := by
    rw [hm, show m + 2 = (m + 1) + 1 from rfl]
    rw [show (Value.agg #[Value.int .i64 x.f0, .int .i64 x.f1]).cells.toList = [Value.int .i64 x.f0, .int .i64 x.f1] from rfl]
    unfold Program.keyLits
    rw [hu]
    simp [h3, h1, keyS_int, ha, hb]
  unfold keyOf
  rw [hu]
  show (if (Tryz.prog.keyType 35 && (Value.agg #[.int .i64 x.f0, .int .i64 x.f1]).formed Tryz.prog 35) = true then _ else none) = _
  rw [hk, hf, if_pos (show (true && true) = true from rfl), hl]
  rfl
theorem KS_inj {x y : TSite} (hx : x.fit) (hy : y.fit) (h : KS x = KS y) : x = y := by
  have h1 := keyS x hx
  rw [h] at h1
  have := keyed_site.inj h1 (keyS y hy)
  simp at this
  cases x; cases y; simp_all
theorem zero_boolS (w : World) : (zeroValue 4).run Tryz.prog w = .ok (.bool false) w := by kernel_rfl
theorem elem_boolS {v : Value} {z : DataW Unit × List MemPlace} (h : plainElem Tryz.prog 4 v = some z) : ∃ x, v = .bool x ∧ z = (.lit (.bool x), []) := by
  unfold plainElem at h
  rw [Tryz.underlying4] at h
  cases v <;> simp at h
  exact ⟨_, rfl, h.symm⟩
theorem make_mapS (w : World) : (Instr.makeMap 133 none).run Tryz.prog w = .ok (.map (some w.heap.size)) (w.alloc (.map #[] 0)) := by
  have ht : Tryz.prog.underlying 133 = some (.map 35 4) := by kernel_rfl
  simp [Instr.makeMap, run_underlying ht]
/-- Block b is a map of at most n entries that says s. -/
def MapS (w : World) (b n : Nat) (s : TSite → Bool) : Prop :=
  ∃ D : DataW Unit, w.ownsMap Tryz.prog 35 (plainElem Tryz.prog 4) b n D ∧ IsMap D ∧ ∀ x : TSite, x.fit → D.atKey (KS x) (.lit (.bool false)) = .lit (.bool (s x))
section
variable {w w' : World} {b n lo hi : Nat} {s s' : TSite → Bool}
theorem MapS.lt (h : MapS w b n s) : b < w.heap.size := by
  obtain ⟨D, h1, _⟩ := h
  exact h1.lt
theorem MapS.keep (h : MapS w b n s) (e : w'.heap[b]? = w.heap[b]?) : MapS w' b n s := by
  obtain ⟨D, ⟨es, clock, hb, hF⟩, h2⟩ := h
  exact ⟨D, ⟨es, clock, e.trans hb, hF⟩, h2⟩
theorem MapS.new (h : MapS w b n s) (hb : Below w.heap.size w w') : MapS w' b n s := h.keep (hb.block b h.lt)
theorem MapS.below_ {B : Nat} (h : MapS w b n s) (hb : Below B w w') (hB : b < B) : MapS w' b n s := h.keep (hb.block b hB)
theorem MapS.alloc_ (h : MapS w b n s) (o : Obj) : MapS (w.alloc o) b n s := h.keep (Below.heap_alloc w o b h.lt)
theorem MapS.congr_ (h : MapS w b n s) (e : ∀ x, s x = s' x) : MapS w b n s' := by
  have he : s = s' := funext e
  exact he ▸ h
theorem mapS_made (w : World) : MapS (w.alloc (.map #[] 0)) w.heap.size 0 (fun _ => false) :=
  ⟨.map [], World.ownsMap_made _ _ _ _, isMap_empty, fun x _ => rfl⟩
theorem MapS.look (h : MapS w b n s) (x : TSite) (hx : x.fit) :
    (Instr.lookup 133 (.map (some b)) (.agg #[.int .i64 x.f0, .int .i64 x.f1]) false).run Tryz.prog w = .ok (.bool (s x)) w := by
  have ht : Tryz.prog.underlying 133 = some (.map 35 4) := by kernel_rfl
  obtain ⟨D, h1, h2, h3⟩ := h
  obtain ⟨v, ps, hrun, hv⟩ := h1.lookup keyed_site ht (zero_boolS w) (plainElem_bool Tryz.underlying4 false) (keyS x hx)
  obtain ⟨y, rfl, hy⟩ := elem_boolS hv
  rw [h3 x hx] at hy
  injection hy with hy _
  injection hy with hy
  injection hy with hy
  rw [hy]
  exact hrun
end
section
variable {w : World} {ops : Array Oper} {rest : List Oper} {o : Oper} {a : Act} {Q : Exit → Act → World → Prop}
/-- 'm[k] = v'. -/
theorem wp_maps_put (hg : o.guard = none) (m x v : Operand) (t : TypeId) (hop : o.op = Op.mapUpdate t m x v) (ht : Tryz.prog.underlying t = some (.map 35 4)) (b n : Nat) (s : TSite → Bool) (hm : a.eval m = .map (some b)) (h : MapS w b n s) (hn : n < maxLen)
    (z : TSite) (y : Bool) (hx : a.eval x = .agg #[.int .i64 z.f0, .int .i64 z.f1]) (hv : a.eval v = .bool y) (hz : z.fit)
    (hK : ∀ w', MapS w' b (n + 1) (fun k => if k = z then y else s k) → w.grownBy w' (some b) → wpList Tryz.prog ops Q rest (a.put o.dst undef) w') : wpList Tryz.prog ops Q (o :: rest) a w := by
  obtain ⟨D, h1, h2, h3⟩ := h
  refine wpList_mapUpdate_own w hg m x v t hop 35 4 keyed_site ht _ b n D hm h1 hn (.agg #[.int .i64 z.f0, .int .i64 z.f1]) (.bool y) (KS z) hx hv (keyS z hz) (.lit (.bool y)) [] (plainElem_bool Tryz.underlying4 y) ?_
  intro w' h4 h5
  refine hK w' ⟨_, h4, h2.put _ _, fun k hk => ?_⟩ h5
  by_cases e : k = z
  · subst e
    simp only [if_true]
    exact atKey_put_same h2 (show WideAt.IsKeyLit (KS k) from trivial) _ _
  · simp only [e, if_false]
    have hne : KS k ≠ KS z := fun h => e (KS_inj hk hz h)
    exact (atKey_put_other hne _ _).trans (h3 k hk)
end
end Go.Proofs.YtafekceggpbnlaaGreat
namespace Go.Proofs.YtafekceggpbnlaaGreat
open Go Go.ChangeShapes Go.WideShapes Go.ChangeAt Go.RowKit Go.Lib
set_option linter.unusedVariables false
set_option linter.unusedSimpArgs false
set_option maxRecDepth 100000

theorem icSite : (Tryz.prog.info? 35).map (fun i => (i.zero, i.size, i.bytes)) = some (some (.agg #[.int .i64 0, .int .i64 0]), 2, 16) := by kernel_rfl
theorem ocSite (l : List TSite) : ∀ u ∈ cSite l, u.oneCell' = true := by
  intro u hu
  obtain ⟨x, _, hx⟩ := List.mem_flatMap.1 hu
  simp only [TSite.cells, List.mem_cons, List.not_mem_nil, or_false] at hx
  rcases hx with rfl | rfl <;> rfl
end Go.Proofs.YtafekceggpbnlaaGreat
namespace Go.Proofs.YtafekceggpbnlaaGreat
open Go Go.ChangeShapes Go.WideShapes Go.ChangeAt Go.RowKit Go.Lib
set_option linter.unusedVariables false
set_option linter.unusedSimpArgs false
set_option maxRecDepth 100000
theorem own_chgS {w w' : World} {base lo hi size n : Nat} {e : TypeId} {v : Value} {xs : List Value} (h : OwnZ w base e size v n xs) (hc : Chg lo hi w w') (hb : hi ≤ base) : OwnZ w' base e size v n xs := by
  refine h.imp (fun h => ?_) id
  refine ⟨h.1, ?_⟩
  rcases h.2 with hn | ⟨g, cap, cur, hv, hg, hh, rest⟩
  · exact .inl hn
  · refine .inr ⟨g, cap, cur, hv, hg, ?_, rest⟩
    rw [hc.block g (Array.getElem?_eq_some_iff.1 hh).1 (by omega)]
    exact hh
theorem ownS_newer {w w' : World} {base size n : Nat} {e : TypeId} {v : Value} {xs : List Value} (h : OwnZ w base e size v n xs) (hb : Below w.heap.size w w') : OwnZ w' base e size v n xs := own_chgS h (chg_of_new (lo := 0) (hi := 0) hb) (Nat.zero_le _)
theorem boxS_put {w : World} {g : Nat} {t : TypeId} {cs : Array Value} (h : BoxAt w g t cs) (j : Nat) (v : Value) : BoxAt (w.setCell ⟨g, j, none⟩ v) g t (cs.setIfInBounds j v) := by
  unfold BoxAt at h ⊢
  simp [World.setCell, Array.getElem?_modify, h]
theorem boxS_past {w : World} {g : Nat} {t : TypeId} {cs : Array Value} (h : BoxAt w g t cs) {p : Addr} {v : Value} (hp : p.block ≠ g) : BoxAt (w.setCell p v) g t cs :=
  (Below.heap_setCell w p v g (fun e => hp e.symm)).trans h
theorem mapS_past {w : World} {b n : Nat} {s : TSite → Bool} (h : MapS w b n s) {p : Addr} {v : Value} (hp : p.block ≠ b) : MapS (w.setCell p v) b n s := h.keep (Below.heap_setCell w p v b (fun e => hp e.symm))
theorem MapS.grown_ {w w' : World} {b n r : Nat} {s : TSite → Bool} (h : MapS w b n s) (hg : w.grownBy w' (some r)) (hne : b ≠ r) : MapS w' b n s := h.keep (hg.block b h.lt (by intro e; injection e with e; exact hne e))
/-- What 'end' answers: the code, the site at hand and the path. -/
theorem end_any (z : Int) (s : TSite) (k : Int) (A : Option Addr) (n c Q P : Nat) (w : World) (hq : BoxAt w Q 50 #[.int .i64 s.f0, .int .i64 s.f1, .int .i64 k]) (hp : BoxAt w P 36 #[.slice A n c]) :
    Calls Tryz.prog 61 #[.int .i64 z, .pointer (some ⟨Q, 0, none⟩), .pointer (some ⟨P, 0, none⟩)] w (Says (.agg #[.int .i64 z, .int .i64 s.f0, .int .i64 s.f1, .slice A n c]) w) := by
  have q0 := hq.at_ (j := 0) (u := .int .i64 s.f0) rfl
  have q1 := hq.at_ (j := 1) (u := .int .i64 s.f1) rfl
  have p0 := hp.at_ (j := 0) (u := .slice A n c) rfl
  have hQl := hq.lt
  have hPl := hp.lt
  have KO := Lib.hid (box_new w 38 #[.int .i64 z, .int .i64 s.f0, .int .i64 s.f1, .slice A n c])
  clear hq hp
  go_enter Tryz.func61, Tryz.ntmps61
  go_wp2_with fail
  have z0 := KO.out.at_ (j := 0) (u := .int .i64 z) rfl
  have z1 := KO.out.at_ (j := 1) (u := .int .i64 s.f0) rfl
  have z2 := KO.out.at_ (j := 2) (u := .int .i64 s.f1) rfl
  have z3 := KO.out.at_ (j := 3) (u := .slice A n c) rfl
  exact bodyPost_ret (v := .agg #[.int .i64 z, .int .i64 s.f0, .int .i64 s.f1, .slice A n c]) (by simp [results, Tryz.results61, go_sem, z0, z1, z2, z3]) rfl ⟨rfl, (Below.refl _ _).alloc (Nat.le_refl _) _⟩
/-- The answer, once it has been stored into the result's block. -/
theorem out_made {w W : World} {z : Int} {s : TSite} {p : List TSite} {A : Option Addr} {n c base : Nat} (hO : OwnZ W base 35 2 (.slice A n c) n (cSite p)) (hb : w.heap.size ≤ base) (hbW : base ≤ W.heap.size) (hB : Below w.heap.size w W) (hn : n = p.length) :
    MakesOutcome z s p.length p w (.returned (.agg #[.int .i64 z, .int .i64 s.f0, .int .i64 s.f1, .slice A n c])) W := by
  obtain ⟨A', c', hv, hF⟩ := fr_of_ownz hO
  injection hv with h1 _ h2
  subst h1
  subst h2
  subst hn
  exact ⟨A, c, base, W.heap.size, rfl, hF, Lib.hid ⟨hb, hbW, Nat.le_refl _⟩, hB⟩
set_option maxHeartbeats 16000000 in
theorem impl_FollowRequest (l : List TRule) (A0 : Option Addr) (n0 c0 lo hi : Nat) (q : TRequest) (w : World) (hn : n0 ≤ 1048576) (hr : Rd w lo hi 8 A0 n0 (cRule l)) (H : Hid (cRuleOk l)) (hq : Hid (TRequest.fit q)) :
    Calls Tryz.prog 29 #[.slice A0 n0 c0, vReq q] w (MakesOutcome (mFol l q).c (mFol l q).s (mFol l q).p.length (mFol l q).p w) := by
  have HR := Lib.hid (hr.old (by decide))
  have CI := Lib.hid (fun W => impl_IsRequest q W)
  have KQ0 := Lib.hid ((box_new w 50 #[.int .i64 q.f0, .int .i64 q.f1, .int .i64 q.f2]).alloc_ (.cells #[.int .i64 0, .int .i64 0, .int .i64 0, .slice none 0 0] 38))
  have KO0 : Hid (BoxAt ((w.alloc (.cells #[.int .i64 q.f0, .int .i64 q.f1, .int .i64 q.f2] 50)).alloc (.cells #[.int .i64 0, .int .i64 0, .int .i64 0, .slice none 0 0] 38)) (w.heap.size + 1) 38 #[.int .i64 0, .int .i64 0, .int .i64 0, .slice none 0 0]) := Lib.hid (by simpa using box_new (w.alloc (.cells #[.int .i64 q.f0, .int .i64 q.f1, .int .i64 q.f2] 50)) 38 #[.int .i64 0, .int .i64 0, .int .i64 0, .slice none 0 0])
  have HB0 : Hid (Below w.heap.size w ((w.alloc (.cells #[.int .i64 q.f0, .int .i64 q.f1, .int .i64 q.f2] 50)).alloc (.cells #[.int .i64 0, .int .i64 0, .int .i64 0, .slice none 0 0] 38))) := Lib.hid (((Below.refl _ _).alloc (Nat.le_refl _) _).alloc (by simp) _)
  have hmm := make_mapS
  have HSF := Lib.hid (show ({ f0 := q.f0, f1 := q.f1 } : TSite).fit from ⟨hq.out.1, hq.out.2.1⟩)
  have HV : Hid (mFol l q = if mIsRequest q = true then fol l q.f2 7 [] ⟨q.f0, q.f1⟩ else ⟨0, ⟨0, 0⟩, []⟩) := Lib.hid rfl
  generalize mFol l q = R at HV ⊢
  generalize mIsRequest q = qi at HV CI
  clear hr
  go_enter Tryz.func29, Tryz.ntmps29
  go_wp2_with fail
  refine (CI.out _).mono ?_
  rintro e1 w1 ⟨rfl, hb1⟩
  have KQ1 := Lib.hid (KQ0.out.new hb1)
  have KO1 := Lib.hid (KO0.out.new hb1)
  have HB1 := Lib.hid (below_trans HB0.out hb1 (by simp <;> omega))
  have hw1 : w.heap.size + 1 < w1.heap.size := KO1.out.lt
  clear hb1 KQ0 KO0 HB0
  cases qi with
  | false =>
    have HE := Lib.hid (show R = ⟨0, ⟨0, 0⟩, []⟩ from HV.out)
    have z0 := KO1.out.at_ (j := 0) (u := .int .i64 0) rfl
    have z1 := KO1.out.at_ (j := 1) (u := .int .i64 0) rfl
    have z2 := KO1.out.at_ (j := 2) (u := .int .i64 0) rfl
    have z3 := KO1.out.at_ (j := 3) (u := .slice none 0 0) rfl
    have y0 := KO1.out.free 0
    have y1 := KO1.out.free 1
    have y2 := KO1.out.free 2
    have y3 := KO1.out.free 3
    have HKOf := Lib.hid (boxS_put (boxS_put (boxS_put (boxS_put KO1.out 0 (.int .i64 0)) 1 (.int .i64 0)) 2 (.int .i64 0)) 3 (.slice none 0 0))
    go_wp2_with fail
    have x0 := HKOf.out.at_ (j := 0) (u := .int .i64 0) rfl
    have x1 := HKOf.out.at_ (j := 1) (u := .int .i64 0) rfl
    have x2 := HKOf.out.at_ (j := 2) (u := .int .i64 0) rfl
    have x3 := HKOf.out.at_ (j := 3) (u := .slice none 0 0) rfl
    refine bodyPost_ret (v := .agg #[.int .i64 0, .int .i64 0, .int .i64 0, .slice none 0 0]) (by simp [results, Tryz.results29, go_sem, x0, x1, x2, x3]) rfl ?_
    rw [HE.out]
    have hwO : w.heap.size ≤ w.heap.size + 1 := Nat.le_succ _
    exact out_made (s := ⟨0, 0⟩) (p := []) (base := w.heap.size) (.inr ⟨rfl, rfl, _, rfl⟩) (Nat.le_refl _) (by have := HB1.out.size; simp only [World.size_setCell]; omega) ((((HB1.out.setCell hwO _).setCell hwO _).setCell hwO _).setCell hwO _) rfl
  | true =>
    have HRV := Lib.hid (show fol l q.f2 7 [] ⟨q.f0, q.f1⟩ = R from HV.out.symm)
    have KQv := Lib.hid (((KQ1.out.alloc_ (.map #[] 0)).alloc_ (.cells #[] 35)).alloc_ (.cells #[.slice (some ⟨w1.heap.size + 1, 0, none⟩) 0 0] 36))
    have KOv := Lib.hid (((KO1.out.alloc_ (.map #[] 0)).alloc_ (.cells #[] 35)).alloc_ (.cells #[.slice (some ⟨w1.heap.size + 1, 0, none⟩) 0 0] 36))
    have KPv : Hid (BoxAt (((w1.alloc (.map #[] 0)).alloc (.cells #[] 35)).alloc (.cells #[.slice (some ⟨w1.heap.size + 1, 0, none⟩) 0 0] 36)) (w1.heap.size + 1 + 1) 36 #[.slice (some ⟨w1.heap.size + 1, 0, none⟩) 0 0]) := Lib.hid (by simpa using box_new ((w1.alloc (.map #[] 0)).alloc (.cells #[] 35)) 36 #[.slice (some ⟨w1.heap.size + 1, 0, none⟩) 0 0])
    have HMv := Lib.hid (((mapS_made w1).alloc_ (.cells #[] 35)).alloc_ (.cells #[.slice (some ⟨w1.heap.size + 1, 0, none⟩) 0 0] 36))
    have HBv : Hid (Below w.heap.size w (((w1.alloc (.map #[] 0)).alloc (.cells #[] 35)).alloc (.cells #[.slice (some ⟨w1.heap.size + 1, 0, none⟩) 0 0] 36))) := Lib.hid (by have := HB1.out.size; exact ((HB1.out.alloc (by omega) _).alloc (by simp <;> omega) _).alloc (by simp <;> omega) _)
    have HSv : Hid ((((w1.alloc (.map #[] 0)).alloc (.cells #[] 35)).alloc (.cells #[.slice (some ⟨w1.heap.size + 1, 0, none⟩) 0 0] 36)).heap.size = w1.heap.size + 3) := Lib.hid (by simp)
    go_wp2_with fail
    obtain ⟨Q, hQ⟩ : ∃ Q, Q = w.heap.size := ⟨_, rfl⟩
    obtain ⟨O, hO⟩ : ∃ O, O = w.heap.size + 1 := ⟨_, rfl⟩
    obtain ⟨M, hM⟩ : ∃ M, M = w1.heap.size := ⟨_, rfl⟩
    obtain ⟨P, hP⟩ : ∃ P, P = w1.heap.size + 1 + 1 := ⟨_, rfl⟩
    obtain ⟨L, hL⟩ : ∃ L, L = w1.heap.size + 1 := ⟨_, rfl⟩
    generalize hVV : (((w1.alloc (.map #[] 0)).alloc (.cells #[] 35)).alloc (.cells #[.slice (some ⟨w1.heap.size + 1, 0, none⟩) 0 0] 36)) = V at KQv KOv KPv HMv HBv HSv ⊢
    obtain ⟨base, hbs⟩ : ∃ b, b = V.heap.size := ⟨_, rfl⟩
    have HSW := HSv.out
    have HL0 := Lib.hid (show OwnZ V base 35 2 (.slice (some ⟨L, 0, none⟩) 0 0) 0 (cSite []) from .inr ⟨rfl, rfl, _, rfl⟩)
    rw [← hO, ← hP, ← hQ]
    rw [← hQ] at KQv
    rw [← hO] at KOv
    rw [← hP, ← hL] at KPv
    rw [← hM] at HMv
    try rw [← hL]
    rw [← hM]
    have hQO : Q < O := by omega
    have hOM : O < M := by omega
    have hMP : M < P := by omega
    have hPb : P < base := by omega
    have hwO : w.heap.size ≤ O := by omega
    have hwQ : w.heap.size ≤ Q := by omega
    have hwP : w.heap.size ≤ P := by omega
    have hwM : w.heap.size ≤ M := by omega
    have hwb : w.heap.size ≤ base := by omega
    have HBb0 : Hid (base ≤ V.heap.size) := Lib.hid (Nat.le_of_eq hbs)
    clear hVV hbs HSW HSv hQ hO hM hP hL KQ1 KO1 hw1
    generalize q.f2 = k at KQv HRV
    go_loopg [9] 7 (fun gg v wr => ∃ (p : List TSite) (s : TSite) (A : Option Addr) (n c : Nat), n = p.length ∧ n ≤ 6 ∧ 7 - n ≤ gg ∧ Hid (fol l k (7 - n) p s = R) ∧ Hid s.fit ∧ Hid (BoxAt wr Q 50 #[.int .i64 s.f0, .int .i64 s.f1, .int .i64 k]) ∧ Hid (BoxAt wr O 38 #[.int .i64 0, .int .i64 0, .int .i64 0, .slice none 0 0]) ∧ Hid (BoxAt wr P 36 #[.slice A n c]) ∧ Hid (MapS wr M n (fun x => decide (x ∈ p))) ∧ Hid (OwnZ wr base 35 2 (.slice A n c) n (cSite p)) ∧ Hid (Below w.heap.size w wr) ∧ Hid (base ≤ wr.heap.size))
    case atStart => exact ⟨[], ⟨q.f0, q.f1⟩, _, 0, 0, rfl, by omega, by omega, HRV, HSF, KQv, KOv, KPv, Lib.hid (HMv.out.congr_ (fun x => by simp)), HL0, HBv, HBb0⟩
    case round =>
      obtain ⟨p, s, A, n, c, hnp, hn6, hgg, HF, HS, KQ, KO, KP, HM, HO, HB, HBb⟩ := hrel
      have HNP := Lib.hid hnp
      have q0 := KQ.out.at_ (j := 0) (u := .int .i64 s.f0) rfl
      have q1 := KQ.out.at_ (j := 1) (u := .int .i64 s.f1) rfl
      have q2 := KQ.out.at_ (j := 2) (u := .int .i64 k) rfl
      have p0 := KP.out.at_ (j := 0) (u := .slice A n c) rfl
      have hlk := HM.out.look s HS.out
      have hMl := HM.out.lt
      obtain ⟨f, hf⟩ : ∃ f, 7 - n = f + 1 := ⟨6 - n, by omega⟩
      have HF1 := Lib.hid (show fol l k (f + 1) p s = R by rw [← hf]; exact HF.out)
      clear hnp
      by_cases hm : s ∈ p
      · rw [decide_eq_true hm] at hlk
        have HE := Lib.hid (fol_loop HF1.out hm)
        clear hm
        go_wp2_with fail
        refine (end_any 3 s k A n c Q P _ KQ.out KP.out).mono ?_
        rintro ee we ⟨rfl, hbe⟩
        have KOe := KO.out.new hbe
        have HOe := Lib.hid (ownS_newer HO.out hbe)
        have HBe := Lib.hid (below_trans HB.out hbe (Nat.le_refl _))
        have z0 := KOe.at_ (j := 0) (u := .int .i64 0) rfl
        have z1 := KOe.at_ (j := 1) (u := .int .i64 0) rfl
        have z2 := KOe.at_ (j := 2) (u := .int .i64 0) rfl
        have z3 := KOe.at_ (j := 3) (u := .slice none 0 0) rfl
        have y0 := KOe.free 0
        have y1 := KOe.free 1
        have y2 := KOe.free 2
        have y3 := KOe.free 3
        have hbes := hbe.size
        have KOf := boxS_put (boxS_put (boxS_put (boxS_put KOe 0 (.int .i64 3)) 1 (.int .i64 s.f0)) 2 (.int .i64 s.f1)) 3 (.slice A n c)
        have HKOf := Lib.hid KOf
        clear hbe KOe KOf
        go_wp2_with fail
        have x0 := HKOf.out.at_ (j := 0) (u := .int .i64 3) rfl
        have x1 := HKOf.out.at_ (j := 1) (u := .int .i64 s.f0) rfl
        have x2 := HKOf.out.at_ (j := 2) (u := .int .i64 s.f1) rfl
        have x3 := HKOf.out.at_ (j := 3) (u := .slice A n c) rfl
        refine bodyPost_ret (v := .agg #[.int .i64 3, .int .i64 s.f0, .int .i64 s.f1, .slice A n c]) (by simp [results, Tryz.results29, go_sem, x0, x1, x2, x3]) rfl ?_
        rw [HE.out]
        refine out_made (base := base) (own_chgS HOe.out ((((Chg.refl O (O + 1) we).set_ (.inl ⟨Nat.le_refl _, Nat.lt_succ_self _⟩) _).set_ (.inl ⟨Nat.le_refl _, Nat.lt_succ_self _⟩) _).set_ (.inl ⟨Nat.le_refl _, Nat.lt_succ_self _⟩) _ |>.set_ (.inl ⟨Nat.le_refl _, Nat.lt_succ_self _⟩) _) (by omega)) hwb (by have := HBb.out; have := hbes; simp only [World.size_setCell]; omega) ?_ HNP.out
        exact (((HBe.out.setCell hwO _).setCell hwO _).setCell hwO _).setCell hwO _
      · rw [decide_eq_false hm] at hlk
        have HNM := Lib.hid hm
        clear hm
        by_cases h6 : n = 6
        · have g6 : ((n : Int) == 6) = true := by simp; omega
          have HE := Lib.hid (fol_long HF1.out HNM.out (by rw [← HNP.out]; exact h6))
          clear h6
          go_wp2_with fail
          refine (end_any 4 s k A n c Q P _ KQ.out KP.out).mono ?_
          rintro ee we ⟨rfl, hbe⟩
          have KOe := KO.out.new hbe
          have HOe := Lib.hid (ownS_newer HO.out hbe)
          have HBe := Lib.hid (below_trans HB.out hbe (Nat.le_refl _))
          have z0 := KOe.at_ (j := 0) (u := .int .i64 0) rfl
          have z1 := KOe.at_ (j := 1) (u := .int .i64 0) rfl
          have z2 := KOe.at_ (j := 2) (u := .int .i64 0) rfl
          have z3 := KOe.at_ (j := 3) (u := .slice none 0 0) rfl
          have y0 := KOe.free 0
          have y1 := KOe.free 1
          have y2 := KOe.free 2
          have y3 := KOe.free 3
          have hbes := hbe.size
          have KOf := boxS_put (boxS_put (boxS_put (boxS_put KOe 0 (.int .i64 4)) 1 (.int .i64 s.f0)) 2 (.int .i64 s.f1)) 3 (.slice A n c)
          have HKOf := Lib.hid KOf
          clear hbe KOe KOf
          go_wp2_with fail
          have x0 := HKOf.out.at_ (j := 0) (u := .int .i64 4) rfl
          have x1 := HKOf.out.at_ (j := 1) (u := .int .i64 s.f0) rfl
          have x2 := HKOf.out.at_ (j := 2) (u := .int .i64 s.f1) rfl
          have x3 := HKOf.out.at_ (j := 3) (u := .slice A n c) rfl
          refine bodyPost_ret (v := .agg #[.int .i64 4, .int .i64 s.f0, .int .i64 s.f1, .slice A n c]) (by simp [results, Tryz.results29, go_sem, x0, x1, x2, x3]) rfl ?_
          rw [HE.out]
          refine out_made (base := base) (own_chgS HOe.out ((((Chg.refl O (O + 1) we).set_ (.inl ⟨Nat.le_refl _, Nat.lt_succ_self _⟩) _).set_ (.inl ⟨Nat.le_refl _, Nat.lt_succ_self _⟩) _).set_ (.inl ⟨Nat.le_refl _, Nat.lt_succ_self _⟩) _ |>.set_ (.inl ⟨Nat.le_refl _, Nat.lt_succ_self _⟩) _) (by omega)) hwb (by have := HBb.out; have := hbes; simp only [World.size_setCell]; omega) ?_ HNP.out
          exact (((HBe.out.setCell hwO _).setCell hwO _).setCell hwO _).setCell hwO _
        · have g6 : ((n : Int) == 6) = false := by simp; omega
          have HN6 := Lib.hid (show ¬ p.length = 6 by rw [← HNP.out]; exact h6)
          have hn5 : n ≤ 5 := by omega
          clear h6
          have p0f := KP.out.free 0
          go_wp2_with (first
            | (at_mapUpdate; refine wp_maps_put rfl _ _ _ _ rfl Tryz.underlying133 M n _ rfl HM.out (by unfold maxLen; omega) s true rfl rfl HS.out ?_; intro w2 hm2 hg2; have HM2 := Lib.hid (hm2.congr_ (s' := fun x => decide (x ∈ p ++ [s])) (fun x => by by_cases e : x = s <;> simp [e])); have KQ2 := Lib.hid (KQ.out.grown hg2 (by omega)); have KO2 := Lib.hid (KO.out.grown hg2 (by omega)); have KP2 := Lib.hid (KP.out.grown hg2 (by omega)); have HO2 := Lib.hid (own_chgS HO.out (chg_of_grown hg2) (by omega)); have HB2 := Lib.hid (grown_below HB.out hg2 (Nat.le_refl _) (fun k hk => by injection hk with hk; omega)); have HBb2 := Lib.hid (Nat.le_trans HBb.out hg2.size); have q02 := KQ2.out.at_ (j := 0) (u := .int .i64 s.f0) rfl; have q12 := KQ2.out.at_ (j := 1) (u := .int .i64 s.f1) rfl; have p02 := KP2.out.at_ (j := 0) (u := .slice A n c) rfl; clear hm2 hg2)
            | (at_builtin; refine wp_appz_lit rfl _ _ _ rfl base 35 (.agg #[.int .i64 0, .int .i64 0]) 2 16 Tryz.underlying36 icSite rfl (by decide) _ _ _ rfl HO2.out #[.int .i64 s.f0, .int .i64 s.f1] 1 1 _ rfl (by simp) rfl (by intro u hu; simp at hu; rcases hu with rfl | rfl <;> rfl) (by unfold maxLen; omega) (by omega) HBb2.out ?_; intro v3 w3 ho3 hb3; obtain ⟨A3, c3, rfl, _⟩ := fr_of_ownz ho3; have HO3 := Lib.hid ho3; have KQ3 := Lib.hid (KQ2.out.keep (hb3.block Q (by omega))); have KO3 := Lib.hid (KO2.out.keep (hb3.block O (by omega))); have KP3 := Lib.hid (KP2.out.keep (hb3.block P (by omega))); have HM3 := Lib.hid (HM2.out.below_ hb3 (by omega)); have HB3 := Lib.hid (HB2.out.trans (hb3.mono hwb)); have HBb3 := Lib.hid (Nat.le_trans HBb2.out hb3.size); have q03 := KQ3.out.at_ (j := 0) (u := .int .i64 s.f0) rfl; have q13 := KQ3.out.at_ (j := 1) (u := .int .i64 s.f1) rfl; have q23 := KQ3.out.at_ (j := 2) (u := .int .i64 k) rfl; have p03 := KP3.out.at_ (j := 0) (u := .slice A n c) rfl; have p0f3 := KP3.out.free 0; have hPQ : P ≠ Q := (by omega); have hQl3 := KQ3.out.lt; have hPl3 := KP3.out.lt; clear ho3 hb3))
          have KQ4 := Lib.hid (boxS_past (p := ⟨P, 0, none⟩) (v := .slice A3 (n + 1) c3) KQ3.out (show P ≠ Q by omega))
          have KO4 := Lib.hid (boxS_past (p := ⟨P, 0, none⟩) (v := .slice A3 (n + 1) c3) KO3.out (show P ≠ O by omega))
          have KP4 := Lib.hid (boxS_put KP3.out 0 (.slice A3 (n + 1) c3))
          have HM4 := Lib.hid (mapS_past (p := ⟨P, 0, none⟩) (v := .slice A3 (n + 1) c3) HM3.out (show P ≠ M by omega))
          have HO4 := Lib.hid (show OwnZ (w3.setCell ⟨P, 0, none⟩ (.slice A3 (n + 1) c3)) base 35 2 (.slice A3 (n + 1) c3) (n + 1) (cSite (p ++ [s])) from own_chgS (lo := P) (hi := P + 1) (by simpa [cSite, List.flatMap_append, TSite.cells] using HO3.out) ((Chg.refl P (P + 1) w3).set_ (.inl ⟨Nat.le_refl _, Nat.lt_succ_self _⟩) _) (by omega))
          have HB4 := Lib.hid (HB3.out.setCell (p := ⟨P, 0, none⟩) hwP (.slice A3 (n + 1) c3))
          have HBb4 : Hid (base ≤ (w3.setCell ⟨P, 0, none⟩ (.slice A3 (n + 1) c3)).heap.size) := Lib.hid (by have := HBb3.out; simp only [World.size_setCell]; exact this)
          generalize w3.setCell ⟨P, 0, none⟩ (.slice A3 (n + 1) c3) = w4 at KQ4 KO4 KP4 HM4 HO4 HB4 HBb4 ⊢
          have HN1 := Lib.hid (show n + 1 = (p ++ [s]).length by rw [List.length_append, ← HNP.out]; rfl)
          clear KQ3 KO3 KP3 HM3 HO3 HB3 HBb3 KQ2 KO2 KP2 HM2 HO2 HB2 HBb2 q02 q12 p02 q03 q13 q23 p03 p0f3 KQ KO KP HM HO q0 q1 q2 p0 p0f hlk
          have CD := Lib.hid (show Calls Tryz.prog 62 #[.slice A0 n0 c0, .agg #[.int .i64 s.f0, .int .i64 s.f1, .int .i64 k]] w4 (Says (.tuple #[vRule (mGot l (reqAt s k)), .bool (mDecides l (reqAt s k))]) w4) from impl_decided l A0 n0 c0 0 w.heap.size (reqAt s k) w4 hn (HR.out.below HB4.out (Nat.le_refl _)) H)
          have D1 := Lib.hid (fun h => fol_done HF1.out HNM.out HN6.out h)
          have D2 := Lib.hid (fun h => fol_stop HF1.out HNM.out HN6.out h)
          have D3 := Lib.hid (fun h => fol_on HF1.out HNM.out HN6.out h)
          have D4 := Lib.hid (fun h => to_fit (q := reqAt s k) H.out h)
          generalize mGot l (reqAt s k) = r at CD D1 D2 D3 D4
          generalize mDecides l (reqAt s k) = d at CD D1 D2 D3 D4
          refine CD.out.mono ?_
          rintro ed w5 ⟨rfl, hb5⟩
          have HRb := Lib.hid (box_new w5 102 #[.int .i64 r.f0, .int .i64 r.f1, .int .i64 r.f2, .int .i64 r.f3, .int .i64 r.f4, .int .i64 r.f5, .int .i64 r.f6, .int .i64 r.f7])
          have KQ5 := Lib.hid (KQ4.out.new hb5)
          have KO5 := Lib.hid (KO4.out.new hb5)
          have KP5 := Lib.hid (KP4.out.new hb5)
          have HM5 := Lib.hid (HM4.out.new hb5)
          have HO5 := Lib.hid (ownS_newer HO4.out hb5)
          have HBb5 := Lib.hid (Nat.le_trans HBb4.out hb5.size)
          have KQ6 := Lib.hid ((KQ4.out.new hb5).alloc_ (.cells #[.int .i64 r.f0, .int .i64 r.f1, .int .i64 r.f2, .int .i64 r.f3, .int .i64 r.f4, .int .i64 r.f5, .int .i64 r.f6, .int .i64 r.f7] 102))
          have KO6 := Lib.hid ((KO4.out.new hb5).alloc_ (.cells #[.int .i64 r.f0, .int .i64 r.f1, .int .i64 r.f2, .int .i64 r.f3, .int .i64 r.f4, .int .i64 r.f5, .int .i64 r.f6, .int .i64 r.f7] 102))
          have KP6 := Lib.hid ((KP4.out.new hb5).alloc_ (.cells #[.int .i64 r.f0, .int .i64 r.f1, .int .i64 r.f2, .int .i64 r.f3, .int .i64 r.f4, .int .i64 r.f5, .int .i64 r.f6, .int .i64 r.f7] 102))
          have HM6 := Lib.hid ((HM4.out.new hb5).alloc_ (.cells #[.int .i64 r.f0, .int .i64 r.f1, .int .i64 r.f2, .int .i64 r.f3, .int .i64 r.f4, .int .i64 r.f5, .int .i64 r.f6, .int .i64 r.f7] 102))
          have HO6 := Lib.hid ((ownS_newer HO4.out hb5).alloc (.cells #[.int .i64 r.f0, .int .i64 r.f1, .int .i64 r.f2, .int .i64 r.f3, .int .i64 r.f4, .int .i64 r.f5, .int .i64 r.f6, .int .i64 r.f7] 102))
          have HB5 := Lib.hid (below_trans HB4.out hb5 (Nat.le_refl _))
          have HB6 := Lib.hid (HB5.out.alloc HB5.out.size (.cells #[.int .i64 r.f0, .int .i64 r.f1, .int .i64 r.f2, .int .i64 r.f3, .int .i64 r.f4, .int .i64 r.f5, .int .i64 r.f6, .int .i64 r.f7] 102))
          have HBb6 : Hid (base ≤ (w5.alloc (.cells #[.int .i64 r.f0, .int .i64 r.f1, .int .i64 r.f2, .int .i64 r.f3, .int .i64 r.f4, .int .i64 r.f5, .int .i64 r.f6, .int .i64 r.f7] 102)).heap.size) := Lib.hid (by have := HBb4.out; have := hb5.size; simp; omega)
          have hQ5 : Q < w5.heap.size := (KQ4.out.new hb5).lt
          have hPR : Hid (Q ≠ w5.heap.size) := Lib.hid (by omega)
          clear hb5 CD KQ4 KO4 KP4 HM4 HO4 HB4 HBb4
          cases d with
          | false =>
            have HE := Lib.hid (D1.out (.inl rfl))
            go_wp2_with fail
            refine (end_any 1 s k A3 (n + 1) c3 Q P _ KQ6.out KP6.out).mono ?_
            rintro ee we ⟨rfl, hbe⟩
            have KOe := KO6.out.new hbe
            have HOe := Lib.hid (ownS_newer HO6.out hbe)
            have HBe := Lib.hid (below_trans HB6.out hbe (Nat.le_refl _))
            have z0 := KOe.at_ (j := 0) (u := .int .i64 0) rfl
            have z1 := KOe.at_ (j := 1) (u := .int .i64 0) rfl
            have z2 := KOe.at_ (j := 2) (u := .int .i64 0) rfl
            have z3 := KOe.at_ (j := 3) (u := .slice none 0 0) rfl
            have y0 := KOe.free 0
            have y1 := KOe.free 1
            have y2 := KOe.free 2
            have y3 := KOe.free 3
            have hbes := hbe.size
            have KOf := boxS_put (boxS_put (boxS_put (boxS_put KOe 0 (.int .i64 1)) 1 (.int .i64 s.f0)) 2 (.int .i64 s.f1)) 3 (.slice A3 (n + 1) c3)
            have HKOf := Lib.hid KOf
            clear hbe KOe KOf
            go_wp2_with fail
            have x0 := HKOf.out.at_ (j := 0) (u := .int .i64 1) rfl
            have x1 := HKOf.out.at_ (j := 1) (u := .int .i64 s.f0) rfl
            have x2 := HKOf.out.at_ (j := 2) (u := .int .i64 s.f1) rfl
            have x3 := HKOf.out.at_ (j := 3) (u := .slice A3 (n + 1) c3) rfl
            refine bodyPost_ret (v := .agg #[.int .i64 1, .int .i64 s.f0, .int .i64 s.f1, .slice A3 (n + 1) c3]) (by simp [results, Tryz.results29, go_sem, x0, x1, x2, x3]) rfl ?_
            rw [HE.out]
            refine out_made (base := base) (own_chgS HOe.out ((((Chg.refl O (O + 1) we).set_ (.inl ⟨Nat.le_refl _, Nat.lt_succ_self _⟩) _).set_ (.inl ⟨Nat.le_refl _, Nat.lt_succ_self _⟩) _).set_ (.inl ⟨Nat.le_refl _, Nat.lt_succ_self _⟩) _ |>.set_ (.inl ⟨Nat.le_refl _, Nat.lt_succ_self _⟩) _) (by omega)) hwb (by have := HBb6.out; have := hbes; simp only [World.size_setCell]; omega) ?_ HN1.out
            exact (((HBe.out.setCell hwO _).setCell hwO _).setCell hwO _).setCell hwO _
          | true =>
            by_cases h1 : r.f5 = 1
            · have g1 : (r.f5 == 1) = true := by simpa using h1
              have HE := Lib.hid (D1.out (.inr h1))
              clear h1
              go_wp2_with fail
              refine (end_any 1 s k A3 (n + 1) c3 Q P _ KQ6.out KP6.out).mono ?_
              rintro ee we ⟨rfl, hbe⟩
              have KOe := KO6.out.new hbe
              have HOe := Lib.hid (ownS_newer HO6.out hbe)
              have HBe := Lib.hid (below_trans HB6.out hbe (Nat.le_refl _))
              have z0 := KOe.at_ (j := 0) (u := .int .i64 0) rfl
              have z1 := KOe.at_ (j := 1) (u := .int .i64 0) rfl
              have z2 := KOe.at_ (j := 2) (u := .int .i64 0) rfl
              have z3 := KOe.at_ (j := 3) (u := .slice none 0 0) rfl
              have y0 := KOe.free 0
              have y1 := KOe.free 1
              have y2 := KOe.free 2
              have y3 := KOe.free 3
              have hbes := hbe.size
              have KOf := boxS_put (boxS_put (boxS_put (boxS_put KOe 0 (.int .i64 1)) 1 (.int .i64 s.f0)) 2 (.int .i64 s.f1)) 3 (.slice A3 (n + 1) c3)
              have HKOf := Lib.hid KOf
              clear hbe KOe KOf
              go_wp2_with fail
              have x0 := HKOf.out.at_ (j := 0) (u := .int .i64 1) rfl
              have x1 := HKOf.out.at_ (j := 1) (u := .int .i64 s.f0) rfl
              have x2 := HKOf.out.at_ (j := 2) (u := .int .i64 s.f1) rfl
              have x3 := HKOf.out.at_ (j := 3) (u := .slice A3 (n + 1) c3) rfl
              refine bodyPost_ret (v := .agg #[.int .i64 1, .int .i64 s.f0, .int .i64 s.f1, .slice A3 (n + 1) c3]) (by simp [results, Tryz.results29, go_sem, x0, x1, x2, x3]) rfl ?_
              rw [HE.out]
              refine out_made (base := base) (own_chgS HOe.out ((((Chg.refl O (O + 1) we).set_ (.inl ⟨Nat.le_refl _, Nat.lt_succ_self _⟩) _).set_ (.inl ⟨Nat.le_refl _, Nat.lt_succ_self _⟩) _).set_ (.inl ⟨Nat.le_refl _, Nat.lt_succ_self _⟩) _ |>.set_ (.inl ⟨Nat.le_refl _, Nat.lt_succ_self _⟩) _) (by omega)) hwb (by have := HBb6.out; have := hbes; simp only [World.size_setCell]; omega) ?_ HN1.out
              exact (((HBe.out.setCell hwO _).setCell hwO _).setCell hwO _).setCell hwO _
            · have g1 : (r.f5 == 1) = false := by simpa using h1
              by_cases h2 : r.f5 = 2
              · have g2 : (r.f5 == 2) = true := by simpa using h2
                have HE := Lib.hid (D2.out rfl h1 h2)
                clear h1 h2
                go_wp2_with fail
                refine (end_any 2 s k A3 (n + 1) c3 Q P _ KQ6.out KP6.out).mono ?_
                rintro ee we ⟨rfl, hbe⟩
                have KOe := KO6.out.new hbe
                have HOe := Lib.hid (ownS_newer HO6.out hbe)
                have HBe := Lib.hid (below_trans HB6.out hbe (Nat.le_refl _))
                have z0 := KOe.at_ (j := 0) (u := .int .i64 0) rfl
                have z1 := KOe.at_ (j := 1) (u := .int .i64 0) rfl
                have z2 := KOe.at_ (j := 2) (u := .int .i64 0) rfl
                have z3 := KOe.at_ (j := 3) (u := .slice none 0 0) rfl
                have y0 := KOe.free 0
                have y1 := KOe.free 1
                have y2 := KOe.free 2
                have y3 := KOe.free 3
                have hbes := hbe.size
                have KOf := boxS_put (boxS_put (boxS_put (boxS_put KOe 0 (.int .i64 2)) 1 (.int .i64 s.f0)) 2 (.int .i64 s.f1)) 3 (.slice A3 (n + 1) c3)
                have HKOf := Lib.hid KOf
                clear hbe KOe KOf
                go_wp2_with fail
                have x0 := HKOf.out.at_ (j := 0) (u := .int .i64 2) rfl
                have x1 := HKOf.out.at_ (j := 1) (u := .int .i64 s.f0) rfl
                have x2 := HKOf.out.at_ (j := 2) (u := .int .i64 s.f1) rfl
                have x3 := HKOf.out.at_ (j := 3) (u := .slice A3 (n + 1) c3) rfl
                refine bodyPost_ret (v := .agg #[.int .i64 2, .int .i64 s.f0, .int .i64 s.f1, .slice A3 (n + 1) c3]) (by simp [results, Tryz.results29, go_sem, x0, x1, x2, x3]) rfl ?_
                rw [HE.out]
                refine out_made (base := base) (own_chgS HOe.out ((((Chg.refl O (O + 1) we).set_ (.inl ⟨Nat.le_refl _, Nat.lt_succ_self _⟩) _).set_ (.inl ⟨Nat.le_refl _, Nat.lt_succ_self _⟩) _).set_ (.inl ⟨Nat.le_refl _, Nat.lt_succ_self _⟩) _ |>.set_ (.inl ⟨Nat.le_refl _, Nat.lt_succ_self _⟩) _) (by omega)) hwb (by have := HBb6.out; have := hbes; simp only [World.size_setCell]; omega) ?_ HN1.out
                exact (((HBe.out.setCell hwO _).setCell hwO _).setCell hwO _).setCell hwO _
              · have g2 : (r.f5 == 2) = false := by simpa using h2
                have HF2 := Lib.hid (D3.out rfl h1 h2)
                have HT := Lib.hid (D4.out rfl)
                clear h1 h2
                have v0 := KQ5.out.free 0
                have v1 := KQ5.out.free 1
                have u0 := KQ5.out.at_ (j := 0) (u := .int .i64 s.f0) rfl
                have u1 := KQ5.out.at_ (j := 1) (u := .int .i64 s.f1) rfl
                go_wp2_with fail
                go_roundg (7 - (n + 1))
                case measure => omega
                case rel =>
                  exact ⟨p ++ [s], ⟨r.f6, r.f7⟩, A3, n + 1, c3, HN1.out, by omega, by omega, Lib.hid (by rw [show 7 - (n + 1) = f by omega]; exact HF2.out), HT, Lib.hid ((boxS_put (boxS_put KQ5.out 0 (.int .i64 r.f6)) 1 (.int .i64 r.f7)).alloc_ _),
                    Lib.hid ((boxS_past (boxS_past KO5.out (show Q ≠ O by omega)) (show Q ≠ O by omega)).alloc_ _), Lib.hid ((boxS_past (boxS_past KP5.out (show Q ≠ P by omega)) (show Q ≠ P by omega)).alloc_ _), Lib.hid ((mapS_past (mapS_past HM5.out (show Q ≠ M by omega)) (show Q ≠ M by omega)).alloc_ _),
                    Lib.hid ((own_chgS HO5.out (((Chg.refl Q (Q + 1) _).set_ (.inl ⟨Nat.le_refl _, Nat.lt_succ_self _⟩) _).set_ (.inl ⟨Nat.le_refl _, Nat.lt_succ_self _⟩) _) (by omega)).alloc _), Lib.hid (((HB5.out.setCell hwQ _).setCell hwQ _).alloc (by have := HB5.out.size; simp only [World.size_setCell]; exact this) _), Lib.hid (by have := HBb5.out; simp only [World.size_setCell, World.size_alloc]; omega)⟩
end Go.Proofs.YtafekceggpbnlaaGreat
namespace Go.Proofs.YtafekceggpbnlaaGreat
open Go Go.ChangeShapes Go.WideShapes Go.ChangeAt Go.RowKit Go.Lib
set_option linter.unusedVariables false
set_option linter.unusedSimpArgs false
set_option maxRecDepth 100000
set_option maxHeartbeats 4000000 in
theorem spec_l18Has (z : TSite) (l : List TSite) (A : Option Addr) (n c lo hi : Nat) (X : Bool) (w : World) (hn : n ≤ 17592186044416) (hr : Rd w lo hi 2 A n (cSite l)) (hX : Hid (decide (z ∈ l) = X)) :
    Calls Tryz.prog 52 #[.slice A n c, vSite z] w (Says (.bool X) w) := by
  have HL := Lib.hid (rd_len TSite.len hr (by decide))
  have HR := Lib.hid hr
  have HBx := Lib.hid (box_new w 35 #[.int .i64 z.f0, .int .i64 z.f1])
  clear hr
  go_enter Tryz.func52, Tryz.ntmps52
  go_wp2_with fail
  go_loopg [5] n (fun gg i wr => ∃ k : Nat, k ≤ n ∧ n - k ≤ gg ∧ i = .int .i64 k ∧ Hid (Below w.heap.size w wr) ∧ Hid (BoxAt wr w.heap.size 35 #[.int .i64 z.f0, .int .i64 z.f1]) ∧ Hid (¬ z ∈ l.take k))
  case atStart => exact ⟨0, Nat.zero_le _, by omega, rfl, Lib.hid ((Below.refl _ _).alloc (Nat.le_refl _) _), HBx, Lib.hid (by simp)⟩
  case round =>
    obtain ⟨k, hk, hg, rfl, HB, HX, HF⟩ := hrel
    by_cases hlt : k < n
    · obtain ⟨b, off, x, rfl, _, _, hz, hc⟩ := rd_elem TSite.len (HR.out.new HB.out) HL.out hlt
      have c0 : wr.cell? ⟨b, off + k * 2, none⟩ = _ := hc 0 _ rfl
      have c1 := hc 1 _ rfl
      have d0 : wr.cell? ⟨w.heap.size, 0, none⟩ = _ := HX.out.at_ rfl
      have d1 : wr.cell? ⟨w.heap.size, 1, none⟩ = _ := HX.out.at_ rfl
      have HZ := Lib.hid hz
      clear hz hc
      by_cases e : x = z
      · have g1 : ∀ w, _ := fun w => (eql_Site x z w).trans (by rw [decide_eq_true e])
        have HE := Lib.hid (show X = true by rw [← hX.out, decide_eq_true (by rw [← e]; exact List.mem_of_getElem? HZ.out)])
        clear e
        go_wp2_with fail
        go_quiet (fail)
        go_wp2_with fail
        go_ret
        exact ⟨by rw [HE.out]; rfl, by first | exact below_dN HB.out _ | exact HB.out⟩
      · have g1 : ∀ w, _ := fun w => (eql_Site x z w).trans (by rw [decide_eq_false e])
        have HE := Lib.hid (show ¬ z ∈ l.take (k + 1) by
          rw [List.take_add_one, HZ.out, Option.toList_some, List.mem_append, List.mem_singleton]
          rintro (h | h)
          · exact HF.out h
          · exact e h.symm)
        clear e
        go_wp2_with fail
        go_quiet (fail)
        go_wp2_with fail
        go_roundg (n - (k + 1))
        case measure => omega
        case rel => exact ⟨k + 1, by omega, by omega, by go_num, Lib.hid (below_dN HB.out _), Lib.hid HX.out, HE⟩
    · obtain rfl : k = n := by omega
      have HE := Lib.hid (show X = false by rw [← hX.out, decide_eq_false (by have h := HF.out; rwa [List.take_of_length_le (by rw [HL.out]; exact Nat.le_refl _)] at h)])
      go_wp2_with fail
      go_ret
      exact ⟨by rw [HE.out]; rfl, by first | exact below_dN HB.out _ | exact HB.out⟩
theorem got_place {l : List TRule} {q : TRequest} (h : mDecides l q = true) : ∃ m : Nat, mDecide l q = (m : Int) ∧ l[m]? = some (mGot l q) := by
  unfold mDecides at h
  have h0 := of_decide_eq_true h
  have hb := decide_bd l q
  have hlt : (mDecide l q).toNat < l.length := by omega
  refine ⟨(mDecide l q).toNat, by omega, ?_⟩
  unfold mGot
  rw [if_neg (by omega), List.getElem?_eq_getElem hlt]; rfl
set_option maxHeartbeats 16000000 in
theorem spec_FollowRequest (l : List TRule) (A0 : Option Addr) (n0 c0 lo hi : Nat) (q : TRequest) (w : World) (hn : n0 ≤ 1048576) (hr : Rd w lo hi 8 A0 n0 (cRule l)) (H : Hid (cRuleOk l)) (hq : Hid (TRequest.fit q)) :
    Calls Tryz.prog 20 #[.slice A0 n0 c0, vReq q] w (MakesOutcome (mFol l q).c (mFol l q).s (mFol l q).p.length (mFol l q).p w) := by
  have HR := Lib.hid (hr.old (by decide))
  have HLr := Lib.hid (rd_len TRule.len hr (by decide))
  have HSF := Lib.hid (show ({ f0 := q.f0, f1 := q.f1 } : TSite).fit from ⟨hq.out.1, hq.out.2.1⟩)
  have HV : Hid (mFol l q = if mIsRequest q = true then fol l q.f2 7 [] ⟨q.f0, q.f1⟩ else ⟨0, ⟨0, 0⟩, []⟩) := Lib.hid rfl
  have KQv := Lib.hid (((box_new w 50 #[.int .i64 q.f0, .int .i64 q.f1, .int .i64 q.f2]).alloc_ (.cells #[.int .i64 0, .int .i64 0, .int .i64 0, .slice none 0 0] 38)).alloc_ (.cells #[.int .i64 0, .int .i64 0, .int .i64 0, .slice none 0 0] 38))
  have KOv : Hid (BoxAt (((w.alloc (.cells #[.int .i64 q.f0, .int .i64 q.f1, .int .i64 q.f2] 50)).alloc (.cells #[.int .i64 0, .int .i64 0, .int .i64 0, .slice none 0 0] 38)).alloc (.cells #[.int .i64 0, .int .i64 0, .int .i64 0, .slice none 0 0] 38)) (w.heap.size + 1) 38 #[.int .i64 0, .int .i64 0, .int .i64 0, .slice none 0 0]) := Lib.hid ((by simpa using box_new (w.alloc (.cells #[.int .i64 q.f0, .int .i64 q.f1, .int .i64 q.f2] 50)) 38 #[.int .i64 0, .int .i64 0, .int .i64 0, .slice none 0 0] : BoxAt ((w.alloc (.cells #[.int .i64 q.f0, .int .i64 q.f1, .int .i64 q.f2] 50)).alloc (.cells #[.int .i64 0, .int .i64 0, .int .i64 0, .slice none 0 0] 38)) (w.heap.size + 1) 38 #[.int .i64 0, .int .i64 0, .int .i64 0, .slice none 0 0]).alloc_ _)
  have KXv : Hid (BoxAt (((w.alloc (.cells #[.int .i64 q.f0, .int .i64 q.f1, .int .i64 q.f2] 50)).alloc (.cells #[.int .i64 0, .int .i64 0, .int .i64 0, .slice none 0 0] 38)).alloc (.cells #[.int .i64 0, .int .i64 0, .int .i64 0, .slice none 0 0] 38)) (w.heap.size + 1 + 1) 38 #[.int .i64 0, .int .i64 0, .int .i64 0, .slice none 0 0]) := Lib.hid (by simpa using box_new ((w.alloc (.cells #[.int .i64 q.f0, .int .i64 q.f1, .int .i64 q.f2] 50)).alloc (.cells #[.int .i64 0, .int .i64 0, .int .i64 0, .slice none 0 0] 38)) 38 #[.int .i64 0, .int .i64 0, .int .i64 0, .slice none 0 0])
  have HBv : Hid (Below w.heap.size w (((w.alloc (.cells #[.int .i64 q.f0, .int .i64 q.f1, .int .i64 q.f2] 50)).alloc (.cells #[.int .i64 0, .int .i64 0, .int .i64 0, .slice none 0 0] 38)).alloc (.cells #[.int .i64 0, .int .i64 0, .int .i64 0, .slice none 0 0] 38))) := Lib.hid ((((Below.refl _ _).alloc (Nat.le_refl _) _).alloc (by simp) _).alloc (by simp <;> omega) _)
  have HSv : Hid ((((w.alloc (.cells #[.int .i64 q.f0, .int .i64 q.f1, .int .i64 q.f2] 50)).alloc (.cells #[.int .i64 0, .int .i64 0, .int .i64 0, .slice none 0 0] 38)).alloc (.cells #[.int .i64 0, .int .i64 0, .int .i64 0, .slice none 0 0] 38)).heap.size = w.heap.size + 3) := Lib.hid (by simp)
  have CI0 := Lib.hid (fun W => spec_IsRequest q W)
  generalize mFol l q = R at HV ⊢
  clear hr
  go_enter Tryz.func20, Tryz.ntmps20
  go_wp2_with fail
  obtain ⟨Q, hQ⟩ : ∃ Q, Q = w.heap.size := ⟨_, rfl⟩
  obtain ⟨O, hO⟩ : ∃ O, O = w.heap.size + 1 := ⟨_, rfl⟩
  obtain ⟨X, hX⟩ : ∃ X, X = w.heap.size + 1 + 1 := ⟨_, rfl⟩
  generalize hVV : (((w.alloc (.cells #[.int .i64 q.f0, .int .i64 q.f1, .int .i64 q.f2] 50)).alloc (.cells #[.int .i64 0, .int .i64 0, .int .i64 0, .slice none 0 0] 38)).alloc (.cells #[.int .i64 0, .int .i64 0, .int .i64 0, .slice none 0 0] 38)) = V at KQv KOv KXv HBv HSv ⊢
  obtain ⟨base, hbs⟩ : ∃ b, b = V.heap.size := ⟨_, rfl⟩
  have HSW := HSv.out
  rw [← hX, ← hO, ← hQ]
  rw [← hQ] at KQv
  rw [← hO] at KOv
  rw [← hX] at KXv
  have hQO : Q < O := by omega
  have hOX : O < X := by omega
  have hXb : X < base := by omega
  have hwO : w.heap.size ≤ O := by omega
  have hwQ : w.heap.size ≤ Q := by omega
  have hwX : w.heap.size ≤ X := by omega
  have hwb : w.heap.size ≤ base := by omega
  have HBb0 : Hid (base ≤ V.heap.size) := Lib.hid (Nat.le_of_eq hbs)
  have HL0 := Lib.hid (show OwnZ V base 35 2 (.slice none 0 0) 0 (cSite []) from .inr ⟨rfl, rfl, _, rfl⟩)
  clear hVV hbs HSW HSv hQ hO hX
  cases hqi : mIsRequest q with
  | false =>
    have HE := Lib.hid (show R = ⟨0, ⟨0, 0⟩, []⟩ by rw [HV.out, hqi]; rfl)
    rw [hqi] at CI0
    clear hqi
    go_loopg [9] 0 (fun gg v wr => V = wr)
    case atStart => exact rfl
    case round =>
      obtain rfl := hrel
      have q0 := KQv.out.at_ (j := 0) (u := .int .i64 q.f0) rfl
      have q1 := KQv.out.at_ (j := 1) (u := .int .i64 q.f1) rfl
      have q2 := KQv.out.at_ (j := 2) (u := .int .i64 q.f2) rfl
      go_wp2_with fail
      refine (CI0.out _).mono ?_
      rintro e1 w1 ⟨rfl, hb1⟩
      have KO1 := Lib.hid (KOv.out.new hb1)
      have KX1 := Lib.hid (KXv.out.new hb1)
      have HB1 := Lib.hid (below_trans HBv.out hb1 (Nat.le_refl _))
      have HL1 := Lib.hid (ownS_newer HL0.out hb1)
      have HBb1 := Lib.hid (Nat.le_trans HBb0.out hb1.size)
      clear hb1 q0 q1 q2
      have a0 := KX1.out.at_ (j := 0) (u := .int .i64 0) rfl
      have a1 := KX1.out.at_ (j := 1) (u := .int .i64 0) rfl
      have a2 := KX1.out.at_ (j := 2) (u := .int .i64 0) rfl
      have a3 := KX1.out.at_ (j := 3) (u := .slice none 0 0) rfl
      have o0 := KO1.out.at_ (j := 0) (u := .int .i64 0) rfl
      have o1 := KO1.out.at_ (j := 1) (u := .int .i64 0) rfl
      have o2 := KO1.out.at_ (j := 2) (u := .int .i64 0) rfl
      have o3 := KO1.out.at_ (j := 3) (u := .slice none 0 0) rfl
      have of0 := KO1.out.free 0
      have of1 := KO1.out.free 1
      have of2 := KO1.out.free 2
      have of3 := KO1.out.free 3
      have hXO : X ≠ O := by omega
      have hXl := KX1.out.lt
      have hOl := KO1.out.lt
      have HKOf := Lib.hid (boxS_put (boxS_put (boxS_put (boxS_put KO1.out 0 (.int .i64 0)) 1 (.int .i64 0)) 2 (.int .i64 0)) 3 (.slice none 0 0))
      go_wp2_with fail
      have y0 := HKOf.out.at_ (j := 0) (u := .int .i64 0) rfl
      have y1 := HKOf.out.at_ (j := 1) (u := .int .i64 0) rfl
      have y2 := HKOf.out.at_ (j := 2) (u := .int .i64 0) rfl
      have y3 := HKOf.out.at_ (j := 3) (u := .slice none 0 0) rfl
      refine bodyPost_ret (v := .agg #[.int .i64 0, .int .i64 0, .int .i64 0, .slice none 0 0]) (by simp [results, Tryz.results20, go_sem, y0, y1, y2, y3]) rfl ?_
      rw [HE.out]
      exact out_made (s := ⟨0, 0⟩) (p := []) (base := base) (own_chgS HL1.out (((((Chg.refl O (X + 1) w1).set_ (.inl ⟨Nat.le_refl _, (show O < X + 1 by omega)⟩) _).set_ (.inl ⟨Nat.le_refl _, (show O < X + 1 by omega)⟩) _).set_ (.inl ⟨Nat.le_refl _, (show O < X + 1 by omega)⟩) _).set_ (.inl ⟨Nat.le_refl _, (show O < X + 1 by omega)⟩) _) (by omega)) hwb (by have := HBb1.out; simp only [World.size_setCell]; exact this) ((((HB1.out.setCell hwO _).setCell hwO _).setCell hwO _).setCell hwO _) rfl
  | true =>
    have HRV := Lib.hid (show fol l q.f2 7 [] ⟨q.f0, q.f1⟩ = R by rw [HV.out, hqi]; rfl)
    have HRQ := Lib.hid (show mIsRequest (reqAt ⟨q.f0, q.f1⟩ q.f2) = true from hqi)
    clear hqi CI0
    generalize q.f2 = k at KQv HRV HRQ
    go_loopg [22] 7 (fun gg v wr => ∃ (p : List TSite) (s : TSite) (A : Option Addr) (n c : Nat) (x0 x1 : Int), n = p.length ∧ n ≤ 5 ∧ 7 - n ≤ gg ∧ Hid (¬ s ∈ p) ∧ Hid (mIsRequest (reqAt s k) = true) ∧ Hid (fol l k (7 - n) p s = R) ∧ Hid s.fit ∧ Hid (BoxAt wr Q 50 #[.int .i64 s.f0, .int .i64 s.f1, .int .i64 k]) ∧ Hid (BoxAt wr O 38 #[.int .i64 0, .int .i64 0, .int .i64 0, .slice none 0 0]) ∧ Hid (BoxAt wr X 38 #[.int .i64 0, .int .i64 x0, .int .i64 x1, .slice A n c]) ∧ Hid (OwnZ wr base 35 2 (.slice A n c) n (cSite p)) ∧ Hid (Below w.heap.size w wr) ∧ Hid (base ≤ wr.heap.size))
    case atStart => exact ⟨[], ⟨q.f0, q.f1⟩, none, 0, 0, 0, 0, rfl, by omega, by omega, Lib.hid (by simp), HRQ, HRV, HSF, KQv, KOv, KXv, HL0, HBv, HBb0⟩
    case round =>
      obtain ⟨p, s, A, n, c, x0, x1, hnp, hn5, hgg, HNM, HRQ, HF, HS, KQ, KO, KX, HO, HB, HBb⟩ := hrel
      have HNP := Lib.hid hnp
      obtain ⟨f, hf⟩ : ∃ f, 7 - n = f + 1 := ⟨6 - n, by omega⟩
      obtain ⟨f2, hf2⟩ : ∃ f2, f = f2 + 1 := ⟨5 - n, by omega⟩
      have HF1 := Lib.hid (show fol l k (f + 1) p s = R by rw [← hf]; exact HF.out)
      have HN6 := Lib.hid (show ¬ p.length = 6 by rw [← hnp]; omega)
      have CI := Lib.hid (fun W => spec_IsRequest (reqAt s k) W)
      rw [HRQ.out] at CI
      change Hid (∀ W, Calls Tryz.prog _ #[.agg #[.int .i64 s.f0, .int .i64 s.f1, .int .i64 k]] W _) at CI
      have q0 := KQ.out.at_ (j := 0) (u := .int .i64 s.f0) rfl
      have q1 := KQ.out.at_ (j := 1) (u := .int .i64 s.f1) rfl
      have q2 := KQ.out.at_ (j := 2) (u := .int .i64 k) rfl
      clear hnp
      go_wp2_with fail
      refine (CI.out _).mono ?_
      rintro e2 w2 ⟨rfl, hb2⟩
      have KQ2 := Lib.hid (KQ.out.new hb2)
      have KO2 := Lib.hid (KO.out.new hb2)
      have KX2 := Lib.hid (KX.out.new hb2)
      have HO2 := Lib.hid (ownS_newer HO.out hb2)
      have HB2 := Lib.hid (below_trans HB.out hb2 (Nat.le_refl _))
      have HBb2 := Lib.hid (Nat.le_trans HBb.out hb2.size)
      have q02 := KQ2.out.at_ (j := 0) (u := .int .i64 s.f0) rfl
      have q12 := KQ2.out.at_ (j := 1) (u := .int .i64 s.f1) rfl
      have x32 := KX2.out.at_ (j := 3) (u := .slice A n c) rfl
      clear hb2 q0 q1 q2 CI KQ KO KX HO
      go_wp2_with (at_builtin; refine wp_appz_lit rfl _ _ _ rfl base 35 (.agg #[.int .i64 0, .int .i64 0]) 2 16 Tryz.underlying36 icSite rfl (by decide) _ _ _ rfl HO2.out #[.int .i64 s.f0, .int .i64 s.f1] 1 1 _ rfl (by simp) rfl (by intro u hu; simp at hu; rcases hu with rfl | rfl <;> rfl) (by unfold maxLen; omega) (by omega) HBb2.out ?_; intro v3 w3 ho3 hb3; obtain ⟨A3, c3, rfl, _⟩ := fr_of_ownz ho3; have HO3 := Lib.hid ho3; have KQ3 := Lib.hid (KQ2.out.keep (hb3.block Q (by omega))); have KO3 := Lib.hid (KO2.out.keep (hb3.block O (by omega))); have KX3 := Lib.hid (KX2.out.keep (hb3.block X (by omega))); have HB3 := Lib.hid (HB2.out.trans (hb3.mono hwb)); have HBb3 := Lib.hid (Nat.le_trans HBb2.out hb3.size); have q03 := KQ3.out.at_ (j := 0) (u := .int .i64 s.f0) rfl; have q13 := KQ3.out.at_ (j := 1) (u := .int .i64 s.f1) rfl; have q23 := KQ3.out.at_ (j := 2) (u := .int .i64 k) rfl; have x03 := KX3.out.at_ (j := 0) (u := .int .i64 0) rfl; have x13 := KX3.out.at_ (j := 1) (u := .int .i64 x0) rfl; have x23 := KX3.out.at_ (j := 2) (u := .int .i64 x1) rfl; have x33 := KX3.out.at_ (j := 3) (u := .slice A n c) rfl; have xf1 := KX3.out.free 1; have xf2 := KX3.out.free 2; have xf3 := KX3.out.free 3; have hXQ : X ≠ Q := (by omega); have hQl3 := KQ3.out.lt; have hXl3 := KX3.out.lt; clear ho3 hb3)
      have KQ4 := Lib.hid (boxS_past (p := ⟨X, 2, none⟩) (v := .int .i64 s.f1) (boxS_past (p := ⟨X, 1, none⟩) (v := .int .i64 s.f0) (boxS_past (p := ⟨X, 3, none⟩) (v := .slice A3 (n + 1) c3) KQ3.out (show X ≠ Q by omega)) (show X ≠ Q by omega)) (show X ≠ Q by omega))
      have KO4 := Lib.hid (boxS_past (p := ⟨X, 2, none⟩) (v := .int .i64 s.f1) (boxS_past (p := ⟨X, 1, none⟩) (v := .int .i64 s.f0) (boxS_past (p := ⟨X, 3, none⟩) (v := .slice A3 (n + 1) c3) KO3.out (show X ≠ O by omega)) (show X ≠ O by omega)) (show X ≠ O by omega))
      have KX4 := Lib.hid (boxS_put (boxS_put (boxS_put KX3.out 3 (.slice A3 (n + 1) c3)) 1 (.int .i64 s.f0)) 2 (.int .i64 s.f1))
      have HO4 := Lib.hid (own_chgS (lo := X) (hi := X + 1) HO3.out ((((Chg.refl X (X + 1) w3).set_ (p := ⟨X, 3, none⟩) (.inl ⟨Nat.le_refl _, Nat.lt_succ_self _⟩) (.slice A3 (n + 1) c3)).set_ (p := ⟨X, 1, none⟩) (.inl ⟨Nat.le_refl _, Nat.lt_succ_self _⟩) (.int .i64 s.f0)).set_ (p := ⟨X, 2, none⟩) (.inl ⟨Nat.le_refl _, Nat.lt_succ_self _⟩) (.int .i64 s.f1)) (by omega))
      have HB4 := Lib.hid (((HB3.out.setCell (p := ⟨X, 3, none⟩) hwX (.slice A3 (n + 1) c3)).setCell (p := ⟨X, 1, none⟩) hwX (.int .i64 s.f0)).setCell (p := ⟨X, 2, none⟩) hwX (.int .i64 s.f1))
      have HBb4 : Hid (base ≤ (((w3.setCell ⟨X, 3, none⟩ (.slice A3 (n + 1) c3)).setCell ⟨X, 1, none⟩ (.int .i64 s.f0)).setCell ⟨X, 2, none⟩ (.int .i64 s.f1)).heap.size) := Lib.hid (by have := HBb3.out; simp only [World.size_setCell]; exact this)
      generalize ((w3.setCell ⟨X, 3, none⟩ (.slice A3 (n + 1) c3)).setCell ⟨X, 1, none⟩ (.int .i64 s.f0)).setCell ⟨X, 2, none⟩ (.int .i64 s.f1) = w4 at KQ4 KO4 KX4 HO4 HB4 HBb4 ⊢
      replace KX4 : Hid (BoxAt w4 X 38 #[.int .i64 0, .int .i64 s.f0, .int .i64 s.f1, .slice A3 (n + 1) c3]) := Lib.hid KX4.out
      replace HO4 : Hid (OwnZ w4 base 35 2 (.slice A3 (n + 1) c3) (n + 1) (cSite (p ++ [s]))) := Lib.hid (by simpa [cSite, List.flatMap_append, TSite.cells] using HO4.out)
      have HN1 := Lib.hid (show n + 1 = (p ++ [s]).length by rw [List.length_append, ← HNP.out]; rfl)
      clear KQ3 KO3 KX3 HO3 HB3 HBb3 KQ2 KO2 KX2 HO2 HB2 HBb2 q02 q12 x32 q03 q13 q23 x03 x13 x23 x33 xf1 xf2 xf3
      have CA := Lib.hid (show Calls Tryz.prog 50 #[.slice A0 n0 c0, .agg #[.int .i64 s.f0, .int .i64 s.f1, .int .i64 k]] w4 (Says (.int .i64 (mActFor l (reqAt s k))) w4) from spec_ActionFor l A0 n0 c0 0 w.heap.size (reqAt s k) w4 hn (HR.out.below HB4.out (Nat.le_refl _)) H)
      have HAF : Hid (mActFor l (reqAt s k) = if mDecides l (reqAt s k) = true then (mGot l (reqAt s k)).f5 else 1) := Lib.hid rfl
      have CDR := Lib.hid (fun W (hW : Below w.heap.size w W) => show Calls Tryz.prog 51 #[.slice A0 n0 c0, .agg #[.int .i64 s.f0, .int .i64 s.f1, .int .i64 k]] W (Says (.int .i64 (mDecide l (reqAt s k))) W) from spec_DecideRule l A0 n0 c0 0 w.heap.size (reqAt s k) W hn (HR.out.below hW (Nat.le_refl _)) H)
      have D1 := Lib.hid (fun h => fol_done HF1.out HNM.out HN6.out h)
      have D2 := Lib.hid (fun h => fol_stop HF1.out HNM.out HN6.out h)
      have D3 := Lib.hid (fun h => fol_on HF1.out HNM.out HN6.out h)
      have D4 := Lib.hid (fun h => to_fit (q := reqAt s k) H.out h)
      have D5 := Lib.hid (fun h h1 h2 => got_send (l := l) (s := s) (k := k) h h1 h2)
      have D6 := Lib.hid (fun h => got_place (l := l) (q := reqAt s k) h)
      generalize mActFor l (reqAt s k) = af at CA HAF
      generalize mGot l (reqAt s k) = r at HAF D1 D2 D3 D4 D5 D6
      generalize mDecides l (reqAt s k) = d at HAF D1 D2 D3 D4 D5 D6
      generalize mDecide l (reqAt s k) = zi at CDR D6
      refine CA.out.mono ?_
      rintro ea w5 ⟨rfl, hb5⟩
      have KQ5 := Lib.hid (KQ4.out.new hb5)
      have KO5 := Lib.hid (KO4.out.new hb5)
      have KX5 := Lib.hid (KX4.out.new hb5)
      have HO5 := Lib.hid (ownS_newer HO4.out hb5)
      have HB5 := Lib.hid (below_trans HB4.out hb5 (Nat.le_refl _))
      have HBb5 := Lib.hid (Nat.le_trans HBb4.out hb5.size)
      have hQl5 := KQ5.out.lt
      have hXl5 := KX5.out.lt
      have hOl5 := KO5.out.lt
      have hXO : X ≠ O := by omega
      clear hb5 CA KQ4 KO4 KX4 HO4 HB4 HBb4
      have xx0 := KX5.out.at_ (j := 0) (u := .int .i64 0) rfl
      have xx1 := KX5.out.at_ (j := 1) (u := .int .i64 s.f0) rfl
      have xx2 := KX5.out.at_ (j := 2) (u := .int .i64 s.f1) rfl
      have xx3 := KX5.out.at_ (j := 3) (u := .slice A3 (n + 1) c3) rfl
      have xxf0 := KX5.out.free 0
      have xxf1 := KX5.out.free 1
      have xxf2 := KX5.out.free 2
      have xxf3 := KX5.out.free 3
      have oo0 := KO5.out.at_ (j := 0) (u := .int .i64 0) rfl
      have oo1 := KO5.out.at_ (j := 1) (u := .int .i64 0) rfl
      have oo2 := KO5.out.at_ (j := 2) (u := .int .i64 0) rfl
      have oo3 := KO5.out.at_ (j := 3) (u := .slice none 0 0) rfl
      have oof0 := KO5.out.free 0
      have oof1 := KO5.out.free 1
      have oof2 := KO5.out.free 2
      have oof3 := KO5.out.free 3
      by_cases ha1 : af = 1
      · have g1 : (af == 1) = true := by simpa using ha1
        have HE := Lib.hid (D1.out (show d = false ∨ r.f5 = 1 by
          cases d with
          | false => exact .inl rfl
          | true => rw [HAF.out] at ha1; exact .inr ha1))
        clear ha1
        have HKOf := Lib.hid (boxS_put (boxS_put (boxS_put (boxS_put (boxS_past (p := ⟨X, 0, none⟩) (v := .int .i64 1) KO5.out (show X ≠ O by omega)) 0 (.int .i64 1)) 1 (.int .i64 s.f0)) 2 (.int .i64 s.f1)) 3 (.slice A3 (n + 1) c3))
        go_wp2_with fail
        have y0 := HKOf.out.at_ (j := 0) (u := .int .i64 1) rfl
        have y1 := HKOf.out.at_ (j := 1) (u := .int .i64 s.f0) rfl
        have y2 := HKOf.out.at_ (j := 2) (u := .int .i64 s.f1) rfl
        have y3 := HKOf.out.at_ (j := 3) (u := .slice A3 (n + 1) c3) rfl
        refine bodyPost_ret (v := .agg #[.int .i64 1, .int .i64 s.f0, .int .i64 s.f1, .slice A3 (n + 1) c3]) (by simp [results, Tryz.results20, go_sem, y0, y1, y2, y3]) rfl ?_
        rw [HE.out]
        exact out_made (base := base) (own_chgS HO5.out ((((((Chg.refl O (X + 1) w5).set_ (.inl ⟨(show O ≤ X by omega), Nat.lt_succ_self _⟩) _).set_ (.inl ⟨Nat.le_refl _, (show O < X + 1 by omega)⟩) _).set_ (.inl ⟨Nat.le_refl _, (show O < X + 1 by omega)⟩) _).set_ (.inl ⟨Nat.le_refl _, (show O < X + 1 by omega)⟩) _).set_ (.inl ⟨Nat.le_refl _, (show O < X + 1 by omega)⟩) _) (by omega)) hwb (by have := HBb5.out; simp only [World.size_setCell]; exact this) (((((HB5.out.setCell hwX _).setCell hwO _).setCell hwO _).setCell hwO _).setCell hwO _) HN1.out
      · have g1 : (af == 1) = false := by simpa using ha1
        have hd : d = true := by
          cases d with
          | true => rfl
          | false => exact absurd HAF.out ha1
        subst hd
        have haf : af = r.f5 := HAF.out
        by_cases ha2 : af = 2
        · have g2 : (af == 2) = true := by simpa using ha2
          have HE := Lib.hid (D2.out rfl (by rw [← haf]; exact ha1) (by rw [← haf]; exact ha2))
          clear ha1 ha2 haf
          have HKOf := Lib.hid (boxS_put (boxS_put (boxS_put (boxS_put (boxS_past (p := ⟨X, 0, none⟩) (v := .int .i64 2) KO5.out (show X ≠ O by omega)) 0 (.int .i64 2)) 1 (.int .i64 s.f0)) 2 (.int .i64 s.f1)) 3 (.slice A3 (n + 1) c3))
          go_wp2_with fail
          have y0 := HKOf.out.at_ (j := 0) (u := .int .i64 2) rfl
          have y1 := HKOf.out.at_ (j := 1) (u := .int .i64 s.f0) rfl
          have y2 := HKOf.out.at_ (j := 2) (u := .int .i64 s.f1) rfl
          have y3 := HKOf.out.at_ (j := 3) (u := .slice A3 (n + 1) c3) rfl
          refine bodyPost_ret (v := .agg #[.int .i64 2, .int .i64 s.f0, .int .i64 s.f1, .slice A3 (n + 1) c3]) (by simp [results, Tryz.results20, go_sem, y0, y1, y2, y3]) rfl ?_
          rw [HE.out]
          exact out_made (base := base) (own_chgS HO5.out ((((((Chg.refl O (X + 1) w5).set_ (.inl ⟨(show O ≤ X by omega), Nat.lt_succ_self _⟩) _).set_ (.inl ⟨Nat.le_refl _, (show O < X + 1 by omega)⟩) _).set_ (.inl ⟨Nat.le_refl _, (show O < X + 1 by omega)⟩) _).set_ (.inl ⟨Nat.le_refl _, (show O < X + 1 by omega)⟩) _).set_ (.inl ⟨Nat.le_refl _, (show O < X + 1 by omega)⟩) _) (by omega)) hwb (by have := HBb5.out; simp only [World.size_setCell]; exact this) (((((HB5.out.setCell hwX _).setCell hwO _).setCell hwO _).setCell hwO _).setCell hwO _) HN1.out
        · have g2 : (af == 2) = false := by simpa using ha2
          have HF2 := Lib.hid (D3.out rfl (by rw [← haf]; exact ha1) (by rw [← haf]; exact ha2))
          have HT := Lib.hid (D4.out rfl)
          have HRQ2 := Lib.hid (D5.out rfl (by rw [← haf]; exact ha1) (by rw [← haf]; exact ha2))
          obtain ⟨mz, hmz, hly⟩ := D6.out rfl
          have hmn : mz < n0 := by have := (List.getElem?_eq_some_iff.1 hly).1; have := HLr.out; omega
          clear ha1 ha2 haf
          have qq0 := KQ5.out.at_ (j := 0) (u := .int .i64 s.f0) rfl
          have qq1 := KQ5.out.at_ (j := 1) (u := .int .i64 s.f1) rfl
          have qq2 := KQ5.out.at_ (j := 2) (u := .int .i64 k) rfl
          go_wp2_with fail
          refine (CDR.out _ HB5.out).mono ?_
          rintro ed w6 ⟨rfl, hb6⟩
          rw [hmz]
          obtain ⟨bb, off, y, hA0, _, _, hz, hc⟩ := rd_elem TRule.len (HR.out.below (below_trans HB5.out hb6 (Nat.le_refl _)) (Nat.le_refl _)) HLr.out hmn
          obtain rfl : r = y := Option.some.inj (hly.symm.trans hz)
          have r6 := hc 6 _ rfl
          have r7 := hc 7 _ rfl
          have r0 : w6.cell? ⟨bb, off + mz * 8, none⟩ = _ := hc 0 _ rfl
          have hbl : bb < w6.heap.size := World.block_lt_of_cell? w6 _ r0
          subst hA0
          have KQ7 := Lib.hid ((KQ5.out.new hb6).alloc_ (.cells #[.int .i64 r.f6, .int .i64 r.f7] 35))
          have KO7 := Lib.hid ((KO5.out.new hb6).alloc_ (.cells #[.int .i64 r.f6, .int .i64 r.f7] 35))
          have KX7 := Lib.hid ((KX5.out.new hb6).alloc_ (.cells #[.int .i64 r.f6, .int .i64 r.f7] 35))
          have HO7 := Lib.hid ((ownS_newer HO5.out hb6).alloc (.cells #[.int .i64 r.f6, .int .i64 r.f7] 35))
          have HB6 := Lib.hid (below_trans HB5.out hb6 (Nat.le_refl _))
          have HB7 := Lib.hid (HB6.out.alloc HB6.out.size (.cells #[.int .i64 r.f6, .int .i64 r.f7] 35))
          have HBb7 : Hid (base ≤ (w6.alloc (.cells #[.int .i64 r.f6, .int .i64 r.f7] 35)).heap.size) := Lib.hid (by have := HBb5.out; have := hb6.size; simp; omega)
          have HTb := Lib.hid (box_new w6 35 #[.int .i64 r.f6, .int .i64 r.f7])
          have hTX : Hid (X < w6.heap.size) := Lib.hid (Nat.lt_of_lt_of_le hXl5 hb6.size)
          have x37 := (KX5.out.new hb6).at_ (j := 3) (u := .slice A3 (n + 1) c3) rfl
          have hXl6 := hTX.out
          clear hz hc hb6 qq0 qq1 qq2 xx0 xxf0 xx1 xxf1 xx2 xxf2 xx3 xxf3 oo0 oof0 oo1 oof1 oo2 oof2 oo3 oof3
          generalize hw7 : w6.alloc (.cells #[.int .i64 r.f6, .int .i64 r.f7] 35) = w7 at KQ7 KO7 KX7 HO7 HB7 HBb7 HTb
          have HW7 := Lib.hid hw7
          clear hw7
          obtain ⟨T, hT⟩ : ∃ T, T = w6.heap.size := ⟨_, rfl⟩
          have hXT : X < T := by rw [hT]; exact hXl6
          have HTb2 : Hid (BoxAt w7 T 35 #[.int .i64 r.f6, .int .i64 r.f7]) := Lib.hid (by rw [hT]; exact HTb.out)
          have HT0 := Lib.hid hT
          clear hT HTb
          obtain ⟨Aq, cq, hvq, hFq⟩ := fr_of_ownz HO7.out
          injection hvq with hv1 _ hv2
          subst hv1
          subst hv2
          have HP7 := Lib.hid hFq.rd
          clear hFq
          have HF3 : Hid (fol l k (f2 + 1) (p ++ [s]) (toOf r) = R) := Lib.hid (by have h := HF2.out; rw [hf2] at h; exact h)
          by_cases hm : toOf r ∈ p ++ [s]
          · have HMM := Lib.hid (show decide (toOf r ∈ p ++ [s]) = true from decide_eq_true hm)
            have HE := Lib.hid (fol_loop HF3.out hm)
            clear hm
            go_wp2_with fail
            rw [HW7.out, ← HT0.out]
            have CH7 : Hid (Calls Tryz.prog 52 #[.slice A3 (n + 1) c3, .agg #[.int .i64 r.f6, .int .i64 r.f7]] w7 (Says (.bool true) w7)) := Lib.hid (spec_l18Has (toOf r) (p ++ [s]) A3 (n + 1) c3 base w7.heap.size true w7 (by omega) HP7.out HMM)
            refine CH7.out.mono ?_
            rintro eh w8 ⟨rfl, hb8⟩
            have KQ8 := Lib.hid (KQ7.out.new hb8)
            have KO8 := Lib.hid (KO7.out.new hb8)
            have KX8 := Lib.hid (KX7.out.new hb8)
            have HO8 := Lib.hid (ownS_newer HO7.out hb8)
            have HB8 := Lib.hid (below_trans HB7.out hb8 (Nat.le_refl _))
            have HBb8 := Lib.hid (Nat.le_trans HBb7.out hb8.size)
            have HT8 := Lib.hid (HTb2.out.new hb8)
            have tt0 := HT8.out.at_ (j := 0) (u := .int .i64 r.f6) rfl
            have tt1 := HT8.out.at_ (j := 1) (u := .int .i64 r.f7) rfl
            have hXT2 : X ≠ T := by omega
            have hTX2 : T ≠ X := by omega
            have hTl8 := HT8.out.lt
            have hXl8 := KX8.out.lt
            clear hb8 CH7
            have xx0 := KX8.out.at_ (j := 0) (u := .int .i64 0) rfl
            have xx1 := KX8.out.at_ (j := 1) (u := .int .i64 s.f0) rfl
            have xx2 := KX8.out.at_ (j := 2) (u := .int .i64 s.f1) rfl
            have xx3 := KX8.out.at_ (j := 3) (u := .slice A3 (n + 1) c3) rfl
            have xxf0 := KX8.out.free 0
            have xxf1 := KX8.out.free 1
            have xxf2 := KX8.out.free 2
            have xxf3 := KX8.out.free 3
            go_wp2_with fail
            have KX9 := Lib.hid (boxS_put (boxS_put (boxS_put KX8.out 1 (.int .i64 r.f6)) 2 (.int .i64 r.f7)) 0 (.int .i64 4))
            have KO9 := Lib.hid (boxS_past (p := ⟨X, 0, none⟩) (v := .int .i64 4) (boxS_past (p := ⟨X, 2, none⟩) (v := .int .i64 r.f7) (boxS_past (p := ⟨X, 1, none⟩) (v := .int .i64 r.f6) KO8.out (show X ≠ O by omega)) (show X ≠ O by omega)) (show X ≠ O by omega))
            have HT9 := Lib.hid (boxS_past (p := ⟨X, 0, none⟩) (v := .int .i64 4) (boxS_past (p := ⟨X, 2, none⟩) (v := .int .i64 r.f7) (boxS_past (p := ⟨X, 1, none⟩) (v := .int .i64 r.f6) HT8.out (show X ≠ T by omega)) (show X ≠ T by omega)) (show X ≠ T by omega))
            have HO9 := Lib.hid (own_chgS (lo := X) (hi := X + 1) HO8.out ((((Chg.refl X (X + 1) w8).set_ (p := ⟨X, 1, none⟩) (.inl ⟨Nat.le_refl _, Nat.lt_succ_self _⟩) (.int .i64 r.f6)).set_ (p := ⟨X, 2, none⟩) (.inl ⟨Nat.le_refl _, Nat.lt_succ_self _⟩) (.int .i64 r.f7)).set_ (p := ⟨X, 0, none⟩) (.inl ⟨Nat.le_refl _, Nat.lt_succ_self _⟩) (.int .i64 4)) (by omega))
            have HB9 := Lib.hid (((HB8.out.setCell (p := ⟨X, 1, none⟩) hwX (.int .i64 r.f6)).setCell (p := ⟨X, 2, none⟩) hwX (.int .i64 r.f7)).setCell (p := ⟨X, 0, none⟩) hwX (.int .i64 4))
            have HBb9 : Hid (base ≤ (((w8.setCell ⟨X, 1, none⟩ (.int .i64 r.f6)).setCell ⟨X, 2, none⟩ (.int .i64 r.f7)).setCell ⟨X, 0, none⟩ (.int .i64 4)).heap.size) := Lib.hid (by have := HBb8.out; simp only [World.size_setCell]; exact this)
            generalize ((w8.setCell ⟨X, 1, none⟩ (.int .i64 r.f6)).setCell ⟨X, 2, none⟩ (.int .i64 r.f7)).setCell ⟨X, 0, none⟩ (.int .i64 4) = w9 at KX9 KO9 HT9 HO9 HB9 HBb9 ⊢
            replace KX9 : Hid (BoxAt w9 X 38 #[.int .i64 4, .int .i64 r.f6, .int .i64 r.f7, .slice A3 (n + 1) c3]) := Lib.hid KX9.out
            obtain ⟨Ar, cr, hvr, hFr⟩ := fr_of_ownz HO9.out
            injection hvr with hr1 _ hr2
            subst hr1
            subst hr2
            have HP9 := Lib.hid hFr.rd
            clear hFr KX8 KO8 HT8 HO8 HB8 HBb8 KQ8 tt0 tt1 xx0 xxf0 xx1 xxf1 xx2 xxf2 xx3 xxf3
            go_wp2_with fail
            have CH9 : Hid (Calls Tryz.prog 52 #[.slice A3 (n + 1) c3, .agg #[.int .i64 r.f6, .int .i64 r.f7]] w9 (Says (.bool true) w9)) := Lib.hid (spec_l18Has (toOf r) (p ++ [s]) A3 (n + 1) c3 base w9.heap.size true w9 (by omega) HP9.out HMM)
            refine CH9.out.mono ?_
            rintro ei w10 ⟨rfl, hb10⟩
            have KO10 := Lib.hid (KO9.out.new hb10)
            have KX10 := Lib.hid (KX9.out.new hb10)
            have HO10 := Lib.hid (ownS_newer HO9.out hb10)
            have HB10 := Lib.hid (below_trans HB9.out hb10 (Nat.le_refl _))
            have HBb10 := Lib.hid (Nat.le_trans HBb9.out hb10.size)
            have hXl10 := KX10.out.lt
            have hOl10 := KO10.out.lt
            clear hb10 CH9
            have xx0 := KX10.out.at_ (j := 0) (u := .int .i64 4) rfl
            have xx1 := KX10.out.at_ (j := 1) (u := .int .i64 r.f6) rfl
            have xx2 := KX10.out.at_ (j := 2) (u := .int .i64 r.f7) rfl
            have xx3 := KX10.out.at_ (j := 3) (u := .slice A3 (n + 1) c3) rfl
            have xxf0 := KX10.out.free 0
            have xxf1 := KX10.out.free 1
            have xxf2 := KX10.out.free 2
            have xxf3 := KX10.out.free 3
            have oo0 := KO10.out.at_ (j := 0) (u := .int .i64 0) rfl
            have oo1 := KO10.out.at_ (j := 1) (u := .int .i64 0) rfl
            have oo2 := KO10.out.at_ (j := 2) (u := .int .i64 0) rfl
            have oo3 := KO10.out.at_ (j := 3) (u := .slice none 0 0) rfl
            have oof0 := KO10.out.free 0
            have oof1 := KO10.out.free 1
            have oof2 := KO10.out.free 2
            have oof3 := KO10.out.free 3
            have HKOf := Lib.hid (boxS_put (boxS_put (boxS_put (boxS_put (boxS_past (p := ⟨X, 0, none⟩) (v := .int .i64 3) KO10.out (show X ≠ O by omega)) 0 (.int .i64 3)) 1 (.int .i64 r.f6)) 2 (.int .i64 r.f7)) 3 (.slice A3 (n + 1) c3))
            go_wp2_with fail
            have y0 := HKOf.out.at_ (j := 0) (u := .int .i64 3) rfl
            have y1 := HKOf.out.at_ (j := 1) (u := .int .i64 r.f6) rfl
            have y2 := HKOf.out.at_ (j := 2) (u := .int .i64 r.f7) rfl
            have y3 := HKOf.out.at_ (j := 3) (u := .slice A3 (n + 1) c3) rfl
            refine bodyPost_ret (v := .agg #[.int .i64 3, .int .i64 r.f6, .int .i64 r.f7, .slice A3 (n + 1) c3]) (by simp [results, Tryz.results20, go_sem, y0, y1, y2, y3]) rfl ?_
            rw [HE.out]
            exact out_made (base := base) (own_chgS HO10.out ((((((Chg.refl O (X + 1) w10).set_ (.inl ⟨(show O ≤ X by omega), Nat.lt_succ_self _⟩) _).set_ (.inl ⟨Nat.le_refl _, (show O < X + 1 by omega)⟩) _).set_ (.inl ⟨Nat.le_refl _, (show O < X + 1 by omega)⟩) _).set_ (.inl ⟨Nat.le_refl _, (show O < X + 1 by omega)⟩) _).set_ (.inl ⟨Nat.le_refl _, (show O < X + 1 by omega)⟩) _) (by omega)) hwb (by have := HBb10.out; simp only [World.size_setCell]; exact this) (((((HB10.out.setCell hwX _).setCell hwO _).setCell hwO _).setCell hwO _).setCell hwO _) HN1.out
          · have HMM := Lib.hid (show decide (toOf r ∈ p ++ [s]) = false from decide_eq_false hm)
            have HNM2 := Lib.hid hm
            by_cases h5 : n = 5
            · have g6 : decide ((6 : Int) ≤ (n : Int) + 1) = true := by simp; omega
              have HE := Lib.hid (fol_long HF3.out hm (show (p ++ [s]).length = 6 by rw [← HN1.out]; omega))
              clear hm h5
              go_wp2_with fail
              rw [HW7.out, ← HT0.out]
              have CH7 : Hid (Calls Tryz.prog 52 #[.slice A3 (n + 1) c3, .agg #[.int .i64 r.f6, .int .i64 r.f7]] w7 (Says (.bool false) w7)) := Lib.hid (spec_l18Has (toOf r) (p ++ [s]) A3 (n + 1) c3 base w7.heap.size false w7 (by omega) HP7.out HMM)
              refine CH7.out.mono ?_
              rintro eh w8 ⟨rfl, hb8⟩
              have KQ8 := Lib.hid (KQ7.out.new hb8)
              have KO8 := Lib.hid (KO7.out.new hb8)
              have KX8 := Lib.hid (KX7.out.new hb8)
              have HO8 := Lib.hid (ownS_newer HO7.out hb8)
              have HB8 := Lib.hid (below_trans HB7.out hb8 (Nat.le_refl _))
              have HBb8 := Lib.hid (Nat.le_trans HBb7.out hb8.size)
              have HT8 := Lib.hid (HTb2.out.new hb8)
              have tt0 := HT8.out.at_ (j := 0) (u := .int .i64 r.f6) rfl
              have tt1 := HT8.out.at_ (j := 1) (u := .int .i64 r.f7) rfl
              have hXT2 : X ≠ T := by omega
              have hTX2 : T ≠ X := by omega
              have hTl8 := HT8.out.lt
              have hXl8 := KX8.out.lt
              clear hb8 CH7
              have xx0 := KX8.out.at_ (j := 0) (u := .int .i64 0) rfl
              have xx1 := KX8.out.at_ (j := 1) (u := .int .i64 s.f0) rfl
              have xx2 := KX8.out.at_ (j := 2) (u := .int .i64 s.f1) rfl
              have xx3 := KX8.out.at_ (j := 3) (u := .slice A3 (n + 1) c3) rfl
              have xxf0 := KX8.out.free 0
              have xxf1 := KX8.out.free 1
              have xxf2 := KX8.out.free 2
              have xxf3 := KX8.out.free 3
              go_wp2_with fail
              have KX9 := Lib.hid (boxS_put (boxS_put (boxS_put KX8.out 1 (.int .i64 r.f6)) 2 (.int .i64 r.f7)) 0 (.int .i64 4))
              have KO9 := Lib.hid (boxS_past (p := ⟨X, 0, none⟩) (v := .int .i64 4) (boxS_past (p := ⟨X, 2, none⟩) (v := .int .i64 r.f7) (boxS_past (p := ⟨X, 1, none⟩) (v := .int .i64 r.f6) KO8.out (show X ≠ O by omega)) (show X ≠ O by omega)) (show X ≠ O by omega))
              have HT9 := Lib.hid (boxS_past (p := ⟨X, 0, none⟩) (v := .int .i64 4) (boxS_past (p := ⟨X, 2, none⟩) (v := .int .i64 r.f7) (boxS_past (p := ⟨X, 1, none⟩) (v := .int .i64 r.f6) HT8.out (show X ≠ T by omega)) (show X ≠ T by omega)) (show X ≠ T by omega))
              have HO9 := Lib.hid (own_chgS (lo := X) (hi := X + 1) HO8.out ((((Chg.refl X (X + 1) w8).set_ (p := ⟨X, 1, none⟩) (.inl ⟨Nat.le_refl _, Nat.lt_succ_self _⟩) (.int .i64 r.f6)).set_ (p := ⟨X, 2, none⟩) (.inl ⟨Nat.le_refl _, Nat.lt_succ_self _⟩) (.int .i64 r.f7)).set_ (p := ⟨X, 0, none⟩) (.inl ⟨Nat.le_refl _, Nat.lt_succ_self _⟩) (.int .i64 4)) (by omega))
              have HB9 := Lib.hid (((HB8.out.setCell (p := ⟨X, 1, none⟩) hwX (.int .i64 r.f6)).setCell (p := ⟨X, 2, none⟩) hwX (.int .i64 r.f7)).setCell (p := ⟨X, 0, none⟩) hwX (.int .i64 4))
              have HBb9 : Hid (base ≤ (((w8.setCell ⟨X, 1, none⟩ (.int .i64 r.f6)).setCell ⟨X, 2, none⟩ (.int .i64 r.f7)).setCell ⟨X, 0, none⟩ (.int .i64 4)).heap.size) := Lib.hid (by have := HBb8.out; simp only [World.size_setCell]; exact this)
              generalize ((w8.setCell ⟨X, 1, none⟩ (.int .i64 r.f6)).setCell ⟨X, 2, none⟩ (.int .i64 r.f7)).setCell ⟨X, 0, none⟩ (.int .i64 4) = w9 at KX9 KO9 HT9 HO9 HB9 HBb9 ⊢
              replace KX9 : Hid (BoxAt w9 X 38 #[.int .i64 4, .int .i64 r.f6, .int .i64 r.f7, .slice A3 (n + 1) c3]) := Lib.hid KX9.out
              obtain ⟨Ar, cr, hvr, hFr⟩ := fr_of_ownz HO9.out
              injection hvr with hr1 _ hr2
              subst hr1
              subst hr2
              have HP9 := Lib.hid hFr.rd
              clear hFr KX8 KO8 HT8 HO8 HB8 HBb8 KQ8 tt0 tt1 xx0 xxf0 xx1 xxf1 xx2 xxf2 xx3 xxf3
              go_wp2_with fail
              have CH9 : Hid (Calls Tryz.prog 52 #[.slice A3 (n + 1) c3, .agg #[.int .i64 r.f6, .int .i64 r.f7]] w9 (Says (.bool false) w9)) := Lib.hid (spec_l18Has (toOf r) (p ++ [s]) A3 (n + 1) c3 base w9.heap.size false w9 (by omega) HP9.out HMM)
              refine CH9.out.mono ?_
              rintro ei w10 ⟨rfl, hb10⟩
              have KO10 := Lib.hid (KO9.out.new hb10)
              have KX10 := Lib.hid (KX9.out.new hb10)
              have HO10 := Lib.hid (ownS_newer HO9.out hb10)
              have HB10 := Lib.hid (below_trans HB9.out hb10 (Nat.le_refl _))
              have HBb10 := Lib.hid (Nat.le_trans HBb9.out hb10.size)
              have hXl10 := KX10.out.lt
              have hOl10 := KO10.out.lt
              clear hb10 CH9
              have xx0 := KX10.out.at_ (j := 0) (u := .int .i64 4) rfl
              have xx1 := KX10.out.at_ (j := 1) (u := .int .i64 r.f6) rfl
              have xx2 := KX10.out.at_ (j := 2) (u := .int .i64 r.f7) rfl
              have xx3 := KX10.out.at_ (j := 3) (u := .slice A3 (n + 1) c3) rfl
              have xxf0 := KX10.out.free 0
              have xxf1 := KX10.out.free 1
              have xxf2 := KX10.out.free 2
              have xxf3 := KX10.out.free 3
              have oo0 := KO10.out.at_ (j := 0) (u := .int .i64 0) rfl
              have oo1 := KO10.out.at_ (j := 1) (u := .int .i64 0) rfl
              have oo2 := KO10.out.at_ (j := 2) (u := .int .i64 0) rfl
              have oo3 := KO10.out.at_ (j := 3) (u := .slice none 0 0) rfl
              have oof0 := KO10.out.free 0
              have oof1 := KO10.out.free 1
              have oof2 := KO10.out.free 2
              have oof3 := KO10.out.free 3
              have HKOf := Lib.hid (boxS_put (boxS_put (boxS_put (boxS_put KO10.out 0 (.int .i64 4)) 1 (.int .i64 r.f6)) 2 (.int .i64 r.f7)) 3 (.slice A3 (n + 1) c3))
              go_wp2_with fail
              have y0 := HKOf.out.at_ (j := 0) (u := .int .i64 4) rfl
              have y1 := HKOf.out.at_ (j := 1) (u := .int .i64 r.f6) rfl
              have y2 := HKOf.out.at_ (j := 2) (u := .int .i64 r.f7) rfl
              have y3 := HKOf.out.at_ (j := 3) (u := .slice A3 (n + 1) c3) rfl
              refine bodyPost_ret (v := .agg #[.int .i64 4, .int .i64 r.f6, .int .i64 r.f7, .slice A3 (n + 1) c3]) (by simp [results, Tryz.results20, go_sem, y0, y1, y2, y3]) rfl ?_
              rw [HE.out]
              exact out_made (base := base) (own_chgS HO10.out (((((Chg.refl O (X + 1) w10).set_ (.inl ⟨Nat.le_refl _, (show O < X + 1 by omega)⟩) _).set_ (.inl ⟨Nat.le_refl _, (show O < X + 1 by omega)⟩) _).set_ (.inl ⟨Nat.le_refl _, (show O < X + 1 by omega)⟩) _).set_ (.inl ⟨Nat.le_refl _, (show O < X + 1 by omega)⟩) _) (by omega)) hwb (by have := HBb10.out; simp only [World.size_setCell]; exact this) ((((HB10.out.setCell hwO _).setCell hwO _).setCell hwO _).setCell hwO _) HN1.out
            · have g6 : decide ((6 : Int) ≤ (n : Int) + 1) = false := by simp; omega
              have hn4 : n + 1 ≤ 5 := by omega
              clear hm h5
              go_wp2_with fail
              rw [HW7.out, ← HT0.out]
              have CH7 : Hid (Calls Tryz.prog 52 #[.slice A3 (n + 1) c3, .agg #[.int .i64 r.f6, .int .i64 r.f7]] w7 (Says (.bool false) w7)) := Lib.hid (spec_l18Has (toOf r) (p ++ [s]) A3 (n + 1) c3 base w7.heap.size false w7 (by omega) HP7.out HMM)
              refine CH7.out.mono ?_
              rintro eh w8 ⟨rfl, hb8⟩
              have KQ8 := Lib.hid (KQ7.out.new hb8)
              have KO8 := Lib.hid (KO7.out.new hb8)
              have KX8 := Lib.hid (KX7.out.new hb8)
              have HO8 := Lib.hid (ownS_newer HO7.out hb8)
              have HB8 := Lib.hid (below_trans HB7.out hb8 (Nat.le_refl _))
              have HBb8 := Lib.hid (Nat.le_trans HBb7.out hb8.size)
              have HT8 := Lib.hid (HTb2.out.new hb8)
              have tt0 := HT8.out.at_ (j := 0) (u := .int .i64 r.f6) rfl
              have tt1 := HT8.out.at_ (j := 1) (u := .int .i64 r.f7) rfl
              have hXT2 : X ≠ T := by omega
              have hTX2 : T ≠ X := by omega
              have hTl8 := HT8.out.lt
              have hXl8 := KX8.out.lt
              clear hb8 CH7
              have xx0 := KX8.out.at_ (j := 0) (u := .int .i64 0) rfl
              have xx1 := KX8.out.at_ (j := 1) (u := .int .i64 s.f0) rfl
              have xx2 := KX8.out.at_ (j := 2) (u := .int .i64 s.f1) rfl
              have xx3 := KX8.out.at_ (j := 3) (u := .slice A3 (n + 1) c3) rfl
              have xxf0 := KX8.out.free 0
              have xxf1 := KX8.out.free 1
              have xxf2 := KX8.out.free 2
              have xxf3 := KX8.out.free 3
              have qf0 := KQ8.out.free 0
              have qf1 := KQ8.out.free 1
              have qc0 := KQ8.out.at_ (j := 0) (u := .int .i64 s.f0) rfl
              have qc1 := KQ8.out.at_ (j := 1) (u := .int .i64 s.f1) rfl
              go_wp2_with fail
              go_roundg (7 - (n + 1))
              case measure => omega
              case rel =>
                exact ⟨p ++ [s], toOf r, A3, n + 1, c3, s.f0, s.f1, HN1.out, by omega, by omega, HNM2, HRQ2, Lib.hid (by rw [show 7 - (n + 1) = f by omega]; exact HF2.out), HT, Lib.hid (boxS_put (boxS_put KQ8.out 0 (.int .i64 r.f6)) 1 (.int .i64 r.f7)),
                  Lib.hid (boxS_past (boxS_past KO8.out (show Q ≠ O by omega)) (show Q ≠ O by omega)), Lib.hid (boxS_past (boxS_past KX8.out (show Q ≠ X by omega)) (show Q ≠ X by omega)),
                  Lib.hid (own_chgS HO8.out (((Chg.refl Q (Q + 1) _).set_ (.inl ⟨Nat.le_refl _, Nat.lt_succ_self _⟩) _).set_ (.inl ⟨Nat.le_refl _, Nat.lt_succ_self _⟩) _) (by omega)), Lib.hid ((HB8.out.setCell hwQ _).setCell hwQ _), Lib.hid (by have := HBb8.out; simp only [World.size_setCell]; exact this)⟩
end Go.Proofs.YtafekceggpbnlaaGreat
namespace Go.Proofs.YtafekceggpbnlaaGreat
open Go Go.ChangeShapes Go.WideShapes Go.ChangeAt Go.RowKit Go.Lib
set_option linter.unusedVariables false
set_option linter.unusedSimpArgs false
set_option maxRecDepth 100000
set_option maxHeartbeats 4000000
def mAsk (m : MBrowser) (q : TRequest) := mFol (mRIF m ⟨q.f0, q.f1⟩) q
theorem mAsk_len (m : MBrowser) (q : TRequest) : (mAsk m q).p.length ≤ 1048576 := by unfold mAsk; have := mFol_len (mRIF m ⟨q.f0, q.f1⟩) q; omega
theorem mRIF_ok {m : MBrowser} (s : TSite) (h : m.ok) : Hid (cRuleOk (mRIF m s)) := Lib.hid (fun r hr => h.2.2.2.2.2.1 r (List.mem_filter.1 hr).1)
set_option maxHeartbeats 8000000 in
theorem impl_AskPageC (x : DBrowser) (m : MBrowser) (lo hi : Nat) (q : TRequest) (w : World) (hd : x.dat = m) (hz : m.sz ≤ 1048576) (hok : m.ok) (hr : x.rd w lo hi) (hc : x.caps) (hq : Hid (TRequest.fit q)) :
    Calls Tryz.prog 8 #[.agg #[.int .i64 x.p0, .slice x.A1 x.n1 x.c1, .slice x.A2 x.n2 x.c2, .slice x.A3 x.n3 x.c3, .slice x.A4 x.n4 x.c4, .slice x.A5 x.n5 x.c5, .slice x.A6 x.n6 x.c6, .int .i64 x.p7], vReq q] w (MakesOutcome (mAsk m q).c (mAsk m q).s (mAsk m q).p.length (mAsk m q).p w) := by
  have hL : (mRIF m ⟨q.f0, q.f1⟩).length ≤ 1048576 := Nat.le_trans (mRIF_len _ _) hz
  have CR : Hid (∀ W, Below w.heap.size w W → Calls Tryz.prog 30 #[.agg #[.int .i64 x.p0, .slice x.A1 x.n1 x.c1, .slice x.A2 x.n2 x.c2, .slice x.A3 x.n3 x.c3, .slice x.A4 x.n4 x.c4, .slice x.A5 x.n5 x.c5, .slice x.A6 x.n6 x.c6, .int .i64 x.p7], .agg #[.int .i64 q.f0, .int .i64 q.f1]] W (Makes 102 8 (mRIF m ⟨q.f0, q.f1⟩).length (cRule (mRIF m ⟨q.f0, q.f1⟩)) W)) := Lib.hid (fun W hb => impl_RulesInForceC x m lo hi ⟨q.f0, q.f1⟩ W hd hz hok (hr.new hb) hc)
  have hRok := mRIF_ok ⟨q.f0, q.f1⟩ hok
  have CF : Hid (∀ V A c lo hi, Rd V lo hi 8 A (mRIF m ⟨q.f0, q.f1⟩).length (cRule (mRIF m ⟨q.f0, q.f1⟩)) → Calls Tryz.prog 29 #[.slice A (mRIF m ⟨q.f0, q.f1⟩).length c, .agg #[.int .i64 q.f0, .int .i64 q.f1, .int .i64 q.f2]] V (fun e w' => ∃ (A2 : Option Addr) (c2 lo2 hi2 : Nat), e = .returned (.agg #[.int .i64 (mAsk m q).c, .int .i64 (mAsk m q).s.f0, .int .i64 (mAsk m q).s.f1, .slice A2 (mAsk m q).p.length c2]) ∧ Fr w' lo2 hi2 35 2 A2 (mAsk m q).p.length c2 (cSite (mAsk m q).p) ∧ (V.heap.size ≤ lo2 ∧ lo2 ≤ hi2 ∧ hi2 ≤ w'.heap.size) ∧ Below V.heap.size V w')) := Lib.hid (fun V A c lo hi h => (impl_FollowRequest _ A _ c lo hi q V hL h hRok hq).mono (fun e w' hh => by obtain ⟨A2, c2, lo2, hi2, h1, h2, h3, h4⟩ := hh; exact ⟨A2, c2, lo2, hi2, h1, h2, SepOutcome_bd h3.out, h4⟩))
  have KB : BoxAt (((w.alloc (.cells #[.int .i64 x.p0, .slice x.A1 x.n1 x.c1, .slice x.A2 x.n2 x.c2, .slice x.A3 x.n3 x.c3, .slice x.A4 x.n4 x.c4, .slice x.A5 x.n5 x.c5, .slice x.A6 x.n6 x.c6, .int .i64 x.p7] 47)).alloc (.cells #[.int .i64 q.f0, .int .i64 q.f1, .int .i64 q.f2] 50)).alloc (.cells #[.int .i64 0, .int .i64 0, .int .i64 0, .slice none 0 0] 38)) w.heap.size 47 #[.int .i64 x.p0, .slice x.A1 x.n1 x.c1, .slice x.A2 x.n2 x.c2, .slice x.A3 x.n3 x.c3, .slice x.A4 x.n4 x.c4, .slice x.A5 x.n5 x.c5, .slice x.A6 x.n6 x.c6, .int .i64 x.p7] := ((box_new w 47 #[.int .i64 x.p0, .slice x.A1 x.n1 x.c1, .slice x.A2 x.n2 x.c2, .slice x.A3 x.n3 x.c3, .slice x.A4 x.n4 x.c4, .slice x.A5 x.n5 x.c5, .slice x.A6 x.n6 x.c6, .int .i64 x.p7]).alloc_ _).alloc_ _
  have KQ : BoxAt (((w.alloc (.cells #[.int .i64 x.p0, .slice x.A1 x.n1 x.c1, .slice x.A2 x.n2 x.c2, .slice x.A3 x.n3 x.c3, .slice x.A4 x.n4 x.c4, .slice x.A5 x.n5 x.c5, .slice x.A6 x.n6 x.c6, .int .i64 x.p7] 47)).alloc (.cells #[.int .i64 q.f0, .int .i64 q.f1, .int .i64 q.f2] 50)).alloc (.cells #[.int .i64 0, .int .i64 0, .int .i64 0, .slice none 0 0] 38)) (w.heap.size + 1) 50 #[.int .i64 q.f0, .int .i64 q.f1, .int .i64 q.f2] := (by simpa using box_new (w.alloc (.cells #[.int .i64 x.p0, .slice x.A1 x.n1 x.c1, .slice x.A2 x.n2 x.c2, .slice x.A3 x.n3 x.c3, .slice x.A4 x.n4 x.c4, .slice x.A5 x.n5 x.c5, .slice x.A6 x.n6 x.c6, .int .i64 x.p7] 47)) 50 #[.int .i64 q.f0, .int .i64 q.f1, .int .i64 q.f2] : BoxAt ((w.alloc (.cells #[.int .i64 x.p0, .slice x.A1 x.n1 x.c1, .slice x.A2 x.n2 x.c2, .slice x.A3 x.n3 x.c3, .slice x.A4 x.n4 x.c4, .slice x.A5 x.n5 x.c5, .slice x.A6 x.n6 x.c6, .int .i64 x.p7] 47)).alloc (.cells #[.int .i64 q.f0, .int .i64 q.f1, .int .i64 q.f2] 50)) (w.heap.size + 1) 50 #[.int .i64 q.f0, .int .i64 q.f1, .int .i64 q.f2]).alloc_ _
  have GO : BoxAt (((w.alloc (.cells #[.int .i64 x.p0, .slice x.A1 x.n1 x.c1, .slice x.A2 x.n2 x.c2, .slice x.A3 x.n3 x.c3, .slice x.A4 x.n4 x.c4, .slice x.A5 x.n5 x.c5, .slice x.A6 x.n6 x.c6, .int .i64 x.p7] 47)).alloc (.cells #[.int .i64 q.f0, .int .i64 q.f1, .int .i64 q.f2] 50)).alloc (.cells #[.int .i64 0, .int .i64 0, .int .i64 0, .slice none 0 0] 38)) (w.heap.size + 1 + 1) 38 #[.int .i64 0, .int .i64 0, .int .i64 0, .slice none 0 0] := by simpa using box_new ((w.alloc (.cells #[.int .i64 x.p0, .slice x.A1 x.n1 x.c1, .slice x.A2 x.n2 x.c2, .slice x.A3 x.n3 x.c3, .slice x.A4 x.n4 x.c4, .slice x.A5 x.n5 x.c5, .slice x.A6 x.n6 x.c6, .int .i64 x.p7] 47)).alloc (.cells #[.int .i64 q.f0, .int .i64 q.f1, .int .i64 q.f2] 50)) 38 #[.int .i64 0, .int .i64 0, .int .i64 0, .slice none 0 0]
  have HB : Below w.heap.size w (((w.alloc (.cells #[.int .i64 x.p0, .slice x.A1 x.n1 x.c1, .slice x.A2 x.n2 x.c2, .slice x.A3 x.n3 x.c3, .slice x.A4 x.n4 x.c4, .slice x.A5 x.n5 x.c5, .slice x.A6 x.n6 x.c6, .int .i64 x.p7] 47)).alloc (.cells #[.int .i64 q.f0, .int .i64 q.f1, .int .i64 q.f2] 50)).alloc (.cells #[.int .i64 0, .int .i64 0, .int .i64 0, .slice none 0 0] 38)) := (((Below.refl _ _).alloc (by first | exact Nat.le_refl _ | (simp; done) | (simp; omega)) _).alloc (by first | exact Nat.le_refl _ | (simp; done) | (simp; omega)) _).alloc (by first | exact Nat.le_refl _ | (simp; done) | (simp; omega)) _
  unfold MakesOutcome
  generalize (mRIF m ⟨q.f0, q.f1⟩).length = rl at CR CF hL
  generalize (mRIF m ⟨q.f0, q.f1⟩) = L at CR CF
  generalize (mAsk m q).p.length = pl at CF ⊢
  generalize (mAsk m q).p = pp at CF ⊢
  generalize (mAsk m q).c = fc at CF ⊢
  generalize (mAsk m q).s = fs at CF ⊢
  clear hL hRok hd hz hok hr hc hq
  go_enter Tryz.func8, Tryz.ntmps8
  go_wp2_with fail
  replace GO := GO.drw
  generalize hgO : w.heap.size + 1 + 1 = gO at GO ⊢
  refine wp_region_held_drew (S := fun w' => BoxAt w' w.heap.size 47 #[.int .i64 x.p0, .slice x.A1 x.n1 x.c1, .slice x.A2 x.n2 x.c2, .slice x.A3 x.n3 x.c3, .slice x.A4 x.n4 x.c4, .slice x.A5 x.n5 x.c5, .slice x.A6 x.n6 x.c6, .int .i64 x.p7] ∧ BoxAt w' (w.heap.size + 1) 50 #[.int .i64 q.f0, .int .i64 q.f1, .int .i64 q.f2] ∧ Below w.heap.size w w') (by kernel_rfl) ?_ (fun hHeld => ?_)
  · exact ⟨KB.drw, KQ.drw, HB.drew⟩
  generalize (World.drew _) = x0 at hHeld GO ⊢
  refine wpAnyH_take (i := 0) (oi := ⟨some 5, _, _, _, _, _⟩) (v := ?_) rfl (by kernel_rfl) (by kernel_rfl) (by kernel_rfl) (fun _ _ _ h => h) (Or.inl ⟨by kernel_rfl, ?_⟩) hHeld ?_
  rotate_left
  focus (intro W hS; have c0_0 := (hS.1).at_ (j := 0) rfl; have c0_1 := (hS.1).at_ (j := 1) rfl; have c0_2 := (hS.1).at_ (j := 2) rfl; have c0_3 := (hS.1).at_ (j := 3) rfl; have c0_4 := (hS.1).at_ (j := 4) rfl; have c0_5 := (hS.1).at_ (j := 5) rfl; have c0_6 := (hS.1).at_ (j := 6) rfl; have c0_7 := (hS.1).at_ (j := 7) rfl; have c1_0 := (hS.2.1).at_ (j := 0) rfl; have c1_1 := (hS.2.1).at_ (j := 1) rfl; have c1_2 := (hS.2.1).at_ (j := 2) rfl; clear hS; first | (go_simp; done) | (go_simp; with_reducible rfl))
  try simp only [Act.put, List.setIfInBounds_toArray, List.set_cons_zero, List.set_cons_succ]
  refine wpAnyH_take (i := 1) (oi := ⟨some 6, _, _, _, _, _⟩) (v := ?_) rfl (by kernel_rfl) (by kernel_rfl) (by kernel_rfl) (fun _ _ _ h => h) (Or.inl ⟨by kernel_rfl, ?_⟩) hHeld ?_
  rotate_left
  focus (intro W hS; have c0_0 := (hS.1).at_ (j := 0) rfl; have c0_1 := (hS.1).at_ (j := 1) rfl; have c0_2 := (hS.1).at_ (j := 2) rfl; have c0_3 := (hS.1).at_ (j := 3) rfl; have c0_4 := (hS.1).at_ (j := 4) rfl; have c0_5 := (hS.1).at_ (j := 5) rfl; have c0_6 := (hS.1).at_ (j := 6) rfl; have c0_7 := (hS.1).at_ (j := 7) rfl; have c1_0 := (hS.2.1).at_ (j := 0) rfl; have c1_1 := (hS.2.1).at_ (j := 1) rfl; have c1_2 := (hS.2.1).at_ (j := 2) rfl; clear hS; first | (go_simp; done) | (go_simp; with_reducible rfl))
  try simp only [Act.put, List.setIfInBounds_toArray, List.set_cons_zero, List.set_cons_succ]
  refine wpAnyH_take (i := 2) (oi := ⟨some 7, _, _, _, _, _⟩) (v := ?_) rfl (by kernel_rfl) (by kernel_rfl) (by kernel_rfl) (fun _ _ _ h => h) (Or.inl ⟨by kernel_rfl, ?_⟩) hHeld ?_
  rotate_left
  focus (intro W hS; have c0_0 := (hS.1).at_ (j := 0) rfl; have c0_1 := (hS.1).at_ (j := 1) rfl; have c0_2 := (hS.1).at_ (j := 2) rfl; have c0_3 := (hS.1).at_ (j := 3) rfl; have c0_4 := (hS.1).at_ (j := 4) rfl; have c0_5 := (hS.1).at_ (j := 5) rfl; have c0_6 := (hS.1).at_ (j := 6) rfl; have c0_7 := (hS.1).at_ (j := 7) rfl; have c1_0 := (hS.2.1).at_ (j := 0) rfl; have c1_1 := (hS.2.1).at_ (j := 1) rfl; have c1_2 := (hS.2.1).at_ (j := 2) rfl; clear hS; first | (go_simp; done) | (go_simp; with_reducible rfl))
  try simp only [Act.put, List.setIfInBounds_toArray, List.set_cons_zero, List.set_cons_succ]
  refine wpAnyH_take (i := 4) (oi := ⟨some 9, _, _, _, _, _⟩) (v := ?_) rfl (by kernel_rfl) (by kernel_rfl) (by kernel_rfl) (fun _ _ _ h => h) (Or.inl ⟨by kernel_rfl, ?_⟩) hHeld ?_
  rotate_left
  focus (intro W hS; have c0_0 := (hS.1).at_ (j := 0) rfl; have c0_1 := (hS.1).at_ (j := 1) rfl; have c0_2 := (hS.1).at_ (j := 2) rfl; have c0_3 := (hS.1).at_ (j := 3) rfl; have c0_4 := (hS.1).at_ (j := 4) rfl; have c0_5 := (hS.1).at_ (j := 5) rfl; have c0_6 := (hS.1).at_ (j := 6) rfl; have c0_7 := (hS.1).at_ (j := 7) rfl; have c1_0 := (hS.2.1).at_ (j := 0) rfl; have c1_1 := (hS.2.1).at_ (j := 1) rfl; have c1_2 := (hS.2.1).at_ (j := 2) rfl; clear hS; first | (go_simp; done) | (go_simp; with_reducible rfl))
  try simp only [Act.put, List.setIfInBounds_toArray, List.set_cons_zero, List.set_cons_succ]
  refine wpAnyH_ready (rs := [3]) (by kernel_rfl) (by simp) ?_
  refine AllReadyH.cons (o := ⟨some 8, _, _, _, _, _⟩) rfl (fun K hK => ?_) AllReadyH.nil
  go_simp
  have POR : gO < (x0).heap.size := GO.lt
  refine Calls.mono (CR.out _ hHeld.2.2) ?_
  rintro e x1 ⟨A1, c1, rfl, GR, hb1⟩
  replace GO := GO.new hb1
  refine hK.out _ _ ⟨hHeld.1.new hb1, hHeld.2.1.new hb1, below_trans hHeld.2.2 hb1 (Nat.le_refl _)⟩ (fun hHeld' => ?_)
  have Z1 := hb1.size
  clear hK K hHeld hb1
  have hHeld := hHeld'
  clear hHeld'
  try simp only [Act.put, List.setIfInBounds_toArray, List.set_cons_zero, List.set_cons_succ]
  refine wpAnyH_ready (rs := [5]) (by kernel_rfl) (by simp) ?_
  refine AllReadyH.cons (o := ⟨some 10, _, _, _, _, _⟩) rfl (fun K hK => ?_) AllReadyH.nil
  go_simp
  have POF : gO < (x1).heap.size := GO.lt
  refine Calls.mono (CF.out _ _ _ _ _ GR.rd) ?_
  rintro e x2 ⟨A2, c2, lo2, hi2, rfl, GF, ⟨mf1, mf2, mf3⟩, hb1⟩
  replace GO := GO.new hb1
  replace GR := GR.new hb1
  refine hK.out _ _ ⟨hHeld.1.new hb1, hHeld.2.1.new hb1, below_trans hHeld.2.2 hb1 (Nat.le_refl _)⟩ (fun hHeld' => ?_)
  have Z2 := hb1.size
  clear hK K hHeld hb1
  have hHeld := hHeld'
  clear hHeld'
  try simp only [Act.put, List.setIfInBounds_toArray, List.set_cons_zero, List.set_cons_succ]
  refine wpAnyH_ready (rs := [6]) (by kernel_rfl) (by simp) ?_
  refine AllReadyH.cons (o := ⟨none, _, _, _, _, _⟩) rfl (fun K hK => ?_) AllReadyH.nil
  rw [if_pos (by rfl)]
  refine wp_store_row 38 _ _ rfl gO #[.int .i64 fc, .int .i64 fs.f0, .int .i64 fs.f1, .slice A2 pl c2] rfl rfl 38 _ GO (by kernel_rfl) (by kernel_rfl) (by kernel_rfl) ?_
  replace GO := box_row (cs := #[.int .i64 fc, .int .i64 fs.f0, .int .i64 fs.f1, .slice A2 pl c2]) GO
  have hc1 := chg_row x2 gO #[.int .i64 fc, .int .i64 fs.f0, .int .i64 fs.f1, .slice A2 pl c2]
  have hHeld2 : BoxAt (World.setRow x2 gO #[.int .i64 fc, .int .i64 fs.f0, .int .i64 fs.f1, .slice A2 pl c2]) w.heap.size 47 #[.int .i64 x.p0, .slice x.A1 x.n1 x.c1, .slice x.A2 x.n2 x.c2, .slice x.A3 x.n3 x.c3, .slice x.A4 x.n4 x.c4, .slice x.A5 x.n5 x.c5, .slice x.A6 x.n6 x.c6, .int .i64 x.p7] ∧ BoxAt (World.setRow x2 gO #[.int .i64 fc, .int .i64 fs.f0, .int .i64 fs.f1, .slice A2 pl c2]) (w.heap.size + 1) 50 #[.int .i64 q.f0, .int .i64 q.f1, .int .i64 q.f2] ∧ Below w.heap.size w (World.setRow x2 gO #[.int .i64 fc, .int .i64 fs.f0, .int .i64 fs.f1, .slice A2 pl c2]) := ⟨hHeld.1.chg hc1 (by omega), hHeld.2.1.chg hc1 (by omega), below_setRow hHeld.2.2 (by omega) _⟩
  replace GR := GR.chg hc1 (by omega)
  replace GF := GF.chg hc1 (by omega)
  clear hc1
  have Z3 : (x2).heap.size ≤ (World.setRow x2 gO #[.int .i64 fc, .int .i64 fs.f0, .int .i64 fs.f1, .slice A2 pl c2]).heap.size := by simp
  generalize World.setRow x2 gO #[.int .i64 fc, .int .i64 fs.f0, .int .i64 fs.f1, .slice A2 pl c2] = x3 at hHeld2 GO GR GF Z3 ⊢
  refine hK.out _ _ hHeld2 (fun hHeld' => ?_)
  clear hHeld2
  clear hK K hHeld
  have hHeld := hHeld'
  clear hHeld'
  try simp only [Act.put, List.setIfInBounds_toArray, List.set_cons_zero, List.set_cons_succ]
  refine wpAnyH_done (by kernel_rfl) ?_ _
  have e0 := GO.at_ (j := 0) rfl
  have e1 := GO.at_ (j := 1) rfl
  have e2 := GO.at_ (j := 2) rfl
  have e3 := GO.at_ (j := 3) rfl
  have HBq := Lib.hid hHeld.2.2
  have HGF := Lib.hid GF
  have HS := Lib.hid hHeld.2.2.size
  have hu1 := mf1
  have hz9 : lo2 ≤ hi2 := mf2
  have hxs := Z3
  clear hHeld GO GF GR
  go_wp2_with fail
  refine bodyPost_ret (v := .agg #[.int .i64 fc, .int .i64 fs.f0, .int .i64 fs.f1, .slice A2 pl c2]) (by simp [results, Tryz.results8, go_sem, e0, e1, e2, e3]) rfl ?_
  exact ⟨A2, c2, lo2, hi2, rfl, HGF.out, Lib.hid (by unfold SepOutcome; omega), HBq.out⟩
set_option maxHeartbeats 8000000 in
theorem spec_AskPage (x : DBrowser) (m : MBrowser) (lo hi : Nat) (q : TRequest) (w : World) (hd : x.dat = m) (hz : m.sz ≤ 1048576) (hok : m.ok) (hr : x.rd w lo hi) (hc : x.caps) (hq : Hid (TRequest.fit q)) :
    Calls Tryz.prog 5 #[.agg #[.int .i64 x.p0, .slice x.A1 x.n1 x.c1, .slice x.A2 x.n2 x.c2, .slice x.A3 x.n3 x.c3, .slice x.A4 x.n4 x.c4, .slice x.A5 x.n5 x.c5, .slice x.A6 x.n6 x.c6, .int .i64 x.p7], vReq q] w (MakesOutcome (mAsk m q).c (mAsk m q).s (mAsk m q).p.length (mAsk m q).p w) := by
  have hL : (mRIF m ⟨q.f0, q.f1⟩).length ≤ 1048576 := Nat.le_trans (mRIF_len _ _) hz
  have CR : Hid (∀ W, Below w.heap.size w W → Calls Tryz.prog 21 #[.agg #[.int .i64 x.p0, .slice x.A1 x.n1 x.c1, .slice x.A2 x.n2 x.c2, .slice x.A3 x.n3 x.c3, .slice x.A4 x.n4 x.c4, .slice x.A5 x.n5 x.c5, .slice x.A6 x.n6 x.c6, .int .i64 x.p7], .agg #[.int .i64 q.f0, .int .i64 q.f1]] W (Makes 102 8 (mRIF m ⟨q.f0, q.f1⟩).length (cRule (mRIF m ⟨q.f0, q.f1⟩)) W)) := Lib.hid (fun W hb => spec_RulesInForce x m lo hi ⟨q.f0, q.f1⟩ W hd hz hok (hr.new hb) hc)
  have hRok := mRIF_ok ⟨q.f0, q.f1⟩ hok
  have CF : Hid (∀ V A c lo hi, Rd V lo hi 8 A (mRIF m ⟨q.f0, q.f1⟩).length (cRule (mRIF m ⟨q.f0, q.f1⟩)) → Calls Tryz.prog 20 #[.slice A (mRIF m ⟨q.f0, q.f1⟩).length c, .agg #[.int .i64 q.f0, .int .i64 q.f1, .int .i64 q.f2]] V (fun e w' => ∃ (A2 : Option Addr) (c2 lo2 hi2 : Nat), e = .returned (.agg #[.int .i64 (mAsk m q).c, .int .i64 (mAsk m q).s.f0, .int .i64 (mAsk m q).s.f1, .slice A2 (mAsk m q).p.length c2]) ∧ Fr w' lo2 hi2 35 2 A2 (mAsk m q).p.length c2 (cSite (mAsk m q).p) ∧ (V.heap.size ≤ lo2 ∧ lo2 ≤ hi2 ∧ hi2 ≤ w'.heap.size) ∧ Below V.heap.size V w')) := Lib.hid (fun V A c lo hi h => (spec_FollowRequest _ A _ c lo hi q V hL h hRok hq).mono (fun e w' hh => by obtain ⟨A2, c2, lo2, hi2, h1, h2, h3, h4⟩ := hh; exact ⟨A2, c2, lo2, hi2, h1, h2, SepOutcome_bd h3.out, h4⟩))
  have KB : BoxAt (((w.alloc (.cells #[.int .i64 x.p0, .slice x.A1 x.n1 x.c1, .slice x.A2 x.n2 x.c2, .slice x.A3 x.n3 x.c3, .slice x.A4 x.n4 x.c4, .slice x.A5 x.n5 x.c5, .slice x.A6 x.n6 x.c6, .int .i64 x.p7] 47)).alloc (.cells #[.int .i64 q.f0, .int .i64 q.f1, .int .i64 q.f2] 50)).alloc (.cells #[.int .i64 0, .int .i64 0, .int .i64 0, .slice none 0 0] 38)) w.heap.size 47 #[.int .i64 x.p0, .slice x.A1 x.n1 x.c1, .slice x.A2 x.n2 x.c2, .slice x.A3 x.n3 x.c3, .slice x.A4 x.n4 x.c4, .slice x.A5 x.n5 x.c5, .slice x.A6 x.n6 x.c6, .int .i64 x.p7] := ((box_new w 47 #[.int .i64 x.p0, .slice x.A1 x.n1 x.c1, .slice x.A2 x.n2 x.c2, .slice x.A3 x.n3 x.c3, .slice x.A4 x.n4 x.c4, .slice x.A5 x.n5 x.c5, .slice x.A6 x.n6 x.c6, .int .i64 x.p7]).alloc_ _).alloc_ _
  have KQ : BoxAt (((w.alloc (.cells #[.int .i64 x.p0, .slice x.A1 x.n1 x.c1, .slice x.A2 x.n2 x.c2, .slice x.A3 x.n3 x.c3, .slice x.A4 x.n4 x.c4, .slice x.A5 x.n5 x.c5, .slice x.A6 x.n6 x.c6, .int .i64 x.p7] 47)).alloc (.cells #[.int .i64 q.f0, .int .i64 q.f1, .int .i64 q.f2] 50)).alloc (.cells #[.int .i64 0, .int .i64 0, .int .i64 0, .slice none 0 0] 38)) (w.heap.size + 1) 50 #[.int .i64 q.f0, .int .i64 q.f1, .int .i64 q.f2] := (by simpa using box_new (w.alloc (.cells #[.int .i64 x.p0, .slice x.A1 x.n1 x.c1, .slice x.A2 x.n2 x.c2, .slice x.A3 x.n3 x.c3, .slice x.A4 x.n4 x.c4, .slice x.A5 x.n5 x.c5, .slice x.A6 x.n6 x.c6, .int .i64 x.p7] 47)) 50 #[.int .i64 q.f0, .int .i64 q.f1, .int .i64 q.f2] : BoxAt ((w.alloc (.cells #[.int .i64 x.p0, .slice x.A1 x.n1 x.c1, .slice x.A2 x.n2 x.c2, .slice x.A3 x.n3 x.c3, .slice x.A4 x.n4 x.c4, .slice x.A5 x.n5 x.c5, .slice x.A6 x.n6 x.c6, .int .i64 x.p7] 47)).alloc (.cells #[.int .i64 q.f0, .int .i64 q.f1, .int .i64 q.f2] 50)) (w.heap.size + 1) 50 #[.int .i64 q.f0, .int .i64 q.f1, .int .i64 q.f2]).alloc_ _
  have GO : BoxAt (((w.alloc (.cells #[.int .i64 x.p0, .slice x.A1 x.n1 x.c1, .slice x.A2 x.n2 x.c2, .slice x.A3 x.n3 x.c3, .slice x.A4 x.n4 x.c4, .slice x.A5 x.n5 x.c5, .slice x.A6 x.n6 x.c6, .int .i64 x.p7] 47)).alloc (.cells #[.int .i64 q.f0, .int .i64 q.f1, .int .i64 q.f2] 50)).alloc (.cells #[.int .i64 0, .int .i64 0, .int .i64 0, .slice none 0 0] 38)) (w.heap.size + 1 + 1) 38 #[.int .i64 0, .int .i64 0, .int .i64 0, .slice none 0 0] := by simpa using box_new ((w.alloc (.cells #[.int .i64 x.p0, .slice x.A1 x.n1 x.c1, .slice x.A2 x.n2 x.c2, .slice x.A3 x.n3 x.c3, .slice x.A4 x.n4 x.c4, .slice x.A5 x.n5 x.c5, .slice x.A6 x.n6 x.c6, .int .i64 x.p7] 47)).alloc (.cells #[.int .i64 q.f0, .int .i64 q.f1, .int .i64 q.f2] 50)) 38 #[.int .i64 0, .int .i64 0, .int .i64 0, .slice none 0 0]
  have HB : Below w.heap.size w (((w.alloc (.cells #[.int .i64 x.p0, .slice x.A1 x.n1 x.c1, .slice x.A2 x.n2 x.c2, .slice x.A3 x.n3 x.c3, .slice x.A4 x.n4 x.c4, .slice x.A5 x.n5 x.c5, .slice x.A6 x.n6 x.c6, .int .i64 x.p7] 47)).alloc (.cells #[.int .i64 q.f0, .int .i64 q.f1, .int .i64 q.f2] 50)).alloc (.cells #[.int .i64 0, .int .i64 0, .int .i64 0, .slice none 0 0] 38)) := (((Below.refl _ _).alloc (by first | exact Nat.le_refl _ | (simp; done) | (simp; omega)) _).alloc (by first | exact Nat.le_refl _ | (simp; done) | (simp; omega)) _).alloc (by first | exact Nat.le_refl _ | (simp; done) | (simp; omega)) _
  unfold MakesOutcome
  generalize (mRIF m ⟨q.f0, q.f1⟩).length = rl at CR CF hL
  generalize (mRIF m ⟨q.f0, q.f1⟩) = L at CR CF
  generalize (mAsk m q).p.length = pl at CF ⊢
  generalize (mAsk m q).p = pp at CF ⊢
  generalize (mAsk m q).c = fc at CF ⊢
  generalize (mAsk m q).s = fs at CF ⊢
  clear hL hRok hd hz hok hr hc hq
  go_enter Tryz.func5, Tryz.ntmps5
  go_wp2_with fail
  replace GO := GO.drw
  generalize hgO : w.heap.size + 1 + 1 = gO at GO ⊢
  refine wp_region_held_drew (S := fun w' => BoxAt w' w.heap.size 47 #[.int .i64 x.p0, .slice x.A1 x.n1 x.c1, .slice x.A2 x.n2 x.c2, .slice x.A3 x.n3 x.c3, .slice x.A4 x.n4 x.c4, .slice x.A5 x.n5 x.c5, .slice x.A6 x.n6 x.c6, .int .i64 x.p7] ∧ BoxAt w' (w.heap.size + 1) 50 #[.int .i64 q.f0, .int .i64 q.f1, .int .i64 q.f2] ∧ Below w.heap.size w w') (by kernel_rfl) ?_ (fun hHeld => ?_)
  · exact ⟨KB.drw, KQ.drw, HB.drew⟩
  generalize (World.drew _) = x0 at hHeld GO ⊢
  refine wpAnyH_take (i := 0) (oi := ⟨some 5, _, _, _, _, _⟩) (v := ?_) rfl (by kernel_rfl) (by kernel_rfl) (by kernel_rfl) (fun _ _ _ h => h) (Or.inl ⟨by kernel_rfl, ?_⟩) hHeld ?_
  rotate_left
  focus (intro W hS; have c0_0 := (hS.1).at_ (j := 0) rfl; have c0_1 := (hS.1).at_ (j := 1) rfl; have c0_2 := (hS.1).at_ (j := 2) rfl; have c0_3 := (hS.1).at_ (j := 3) rfl; have c0_4 := (hS.1).at_ (j := 4) rfl; have c0_5 := (hS.1).at_ (j := 5) rfl; have c0_6 := (hS.1).at_ (j := 6) rfl; have c0_7 := (hS.1).at_ (j := 7) rfl; have c1_0 := (hS.2.1).at_ (j := 0) rfl; have c1_1 := (hS.2.1).at_ (j := 1) rfl; have c1_2 := (hS.2.1).at_ (j := 2) rfl; clear hS; first | (go_simp; done) | (go_simp; with_reducible rfl))
  try simp only [Act.put, List.setIfInBounds_toArray, List.set_cons_zero, List.set_cons_succ]
  refine wpAnyH_take (i := 1) (oi := ⟨some 6, _, _, _, _, _⟩) (v := ?_) rfl (by kernel_rfl) (by kernel_rfl) (by kernel_rfl) (fun _ _ _ h => h) (Or.inl ⟨by kernel_rfl, ?_⟩) hHeld ?_
  rotate_left
  focus (intro W hS; have c0_0 := (hS.1).at_ (j := 0) rfl; have c0_1 := (hS.1).at_ (j := 1) rfl; have c0_2 := (hS.1).at_ (j := 2) rfl; have c0_3 := (hS.1).at_ (j := 3) rfl; have c0_4 := (hS.1).at_ (j := 4) rfl; have c0_5 := (hS.1).at_ (j := 5) rfl; have c0_6 := (hS.1).at_ (j := 6) rfl; have c0_7 := (hS.1).at_ (j := 7) rfl; have c1_0 := (hS.2.1).at_ (j := 0) rfl; have c1_1 := (hS.2.1).at_ (j := 1) rfl; have c1_2 := (hS.2.1).at_ (j := 2) rfl; clear hS; first | (go_simp; done) | (go_simp; with_reducible rfl))
  try simp only [Act.put, List.setIfInBounds_toArray, List.set_cons_zero, List.set_cons_succ]
  refine wpAnyH_take (i := 2) (oi := ⟨some 7, _, _, _, _, _⟩) (v := ?_) rfl (by kernel_rfl) (by kernel_rfl) (by kernel_rfl) (fun _ _ _ h => h) (Or.inl ⟨by kernel_rfl, ?_⟩) hHeld ?_
  rotate_left
  focus (intro W hS; have c0_0 := (hS.1).at_ (j := 0) rfl; have c0_1 := (hS.1).at_ (j := 1) rfl; have c0_2 := (hS.1).at_ (j := 2) rfl; have c0_3 := (hS.1).at_ (j := 3) rfl; have c0_4 := (hS.1).at_ (j := 4) rfl; have c0_5 := (hS.1).at_ (j := 5) rfl; have c0_6 := (hS.1).at_ (j := 6) rfl; have c0_7 := (hS.1).at_ (j := 7) rfl; have c1_0 := (hS.2.1).at_ (j := 0) rfl; have c1_1 := (hS.2.1).at_ (j := 1) rfl; have c1_2 := (hS.2.1).at_ (j := 2) rfl; clear hS; first | (go_simp; done) | (go_simp; with_reducible rfl))
  try simp only [Act.put, List.setIfInBounds_toArray, List.set_cons_zero, List.set_cons_succ]
  refine wpAnyH_take (i := 4) (oi := ⟨some 9, _, _, _, _, _⟩) (v := ?_) rfl (by kernel_rfl) (by kernel_rfl) (by kernel_rfl) (fun _ _ _ h => h) (Or.inl ⟨by kernel_rfl, ?_⟩) hHeld ?_
  rotate_left
  focus (intro W hS; have c0_0 := (hS.1).at_ (j := 0) rfl; have c0_1 := (hS.1).at_ (j := 1) rfl; have c0_2 := (hS.1).at_ (j := 2) rfl; have c0_3 := (hS.1).at_ (j := 3) rfl; have c0_4 := (hS.1).at_ (j := 4) rfl; have c0_5 := (hS.1).at_ (j := 5) rfl; have c0_6 := (hS.1).at_ (j := 6) rfl; have c0_7 := (hS.1).at_ (j := 7) rfl; have c1_0 := (hS.2.1).at_ (j := 0) rfl; have c1_1 := (hS.2.1).at_ (j := 1) rfl; have c1_2 := (hS.2.1).at_ (j := 2) rfl; clear hS; first | (go_simp; done) | (go_simp; with_reducible rfl))
  try simp only [Act.put, List.setIfInBounds_toArray, List.set_cons_zero, List.set_cons_succ]
  refine wpAnyH_ready (rs := [3]) (by kernel_rfl) (by simp) ?_
  refine AllReadyH.cons (o := ⟨some 8, _, _, _, _, _⟩) rfl (fun K hK => ?_) AllReadyH.nil
  go_simp
  have POR : gO < (x0).heap.size := GO.lt
  refine Calls.mono (CR.out _ hHeld.2.2) ?_
  rintro e x1 ⟨A1, c1, rfl, GR, hb1⟩
  replace GO := GO.new hb1
  refine hK.out _ _ ⟨hHeld.1.new hb1, hHeld.2.1.new hb1, below_trans hHeld.2.2 hb1 (Nat.le_refl _)⟩ (fun hHeld' => ?_)
  have Z1 := hb1.size
  clear hK K hHeld hb1
  have hHeld := hHeld'
  clear hHeld'
  try simp only [Act.put, List.setIfInBounds_toArray, List.set_cons_zero, List.set_cons_succ]
  refine wpAnyH_ready (rs := [5]) (by kernel_rfl) (by simp) ?_
  refine AllReadyH.cons (o := ⟨some 10, _, _, _, _, _⟩) rfl (fun K hK => ?_) AllReadyH.nil
  go_simp
  have POF : gO < (x1).heap.size := GO.lt
  refine Calls.mono (CF.out _ _ _ _ _ GR.rd) ?_
  rintro e x2 ⟨A2, c2, lo2, hi2, rfl, GF, ⟨mf1, mf2, mf3⟩, hb1⟩
  replace GO := GO.new hb1
  replace GR := GR.new hb1
  refine hK.out _ _ ⟨hHeld.1.new hb1, hHeld.2.1.new hb1, below_trans hHeld.2.2 hb1 (Nat.le_refl _)⟩ (fun hHeld' => ?_)
  have Z2 := hb1.size
  clear hK K hHeld hb1
  have hHeld := hHeld'
  clear hHeld'
  try simp only [Act.put, List.setIfInBounds_toArray, List.set_cons_zero, List.set_cons_succ]
  refine wpAnyH_ready (rs := [6]) (by kernel_rfl) (by simp) ?_
  refine AllReadyH.cons (o := ⟨none, _, _, _, _, _⟩) rfl (fun K hK => ?_) AllReadyH.nil
  rw [if_pos (by rfl)]
  refine wp_store_row 38 _ _ rfl gO #[.int .i64 fc, .int .i64 fs.f0, .int .i64 fs.f1, .slice A2 pl c2] rfl rfl 38 _ GO (by kernel_rfl) (by kernel_rfl) (by kernel_rfl) ?_
  replace GO := box_row (cs := #[.int .i64 fc, .int .i64 fs.f0, .int .i64 fs.f1, .slice A2 pl c2]) GO
  have hc1 := chg_row x2 gO #[.int .i64 fc, .int .i64 fs.f0, .int .i64 fs.f1, .slice A2 pl c2]
  have hHeld2 : BoxAt (World.setRow x2 gO #[.int .i64 fc, .int .i64 fs.f0, .int .i64 fs.f1, .slice A2 pl c2]) w.heap.size 47 #[.int .i64 x.p0, .slice x.A1 x.n1 x.c1, .slice x.A2 x.n2 x.c2, .slice x.A3 x.n3 x.c3, .slice x.A4 x.n4 x.c4, .slice x.A5 x.n5 x.c5, .slice x.A6 x.n6 x.c6, .int .i64 x.p7] ∧ BoxAt (World.setRow x2 gO #[.int .i64 fc, .int .i64 fs.f0, .int .i64 fs.f1, .slice A2 pl c2]) (w.heap.size + 1) 50 #[.int .i64 q.f0, .int .i64 q.f1, .int .i64 q.f2] ∧ Below w.heap.size w (World.setRow x2 gO #[.int .i64 fc, .int .i64 fs.f0, .int .i64 fs.f1, .slice A2 pl c2]) := ⟨hHeld.1.chg hc1 (by omega), hHeld.2.1.chg hc1 (by omega), below_setRow hHeld.2.2 (by omega) _⟩
  replace GR := GR.chg hc1 (by omega)
  replace GF := GF.chg hc1 (by omega)
  clear hc1
  have Z3 : (x2).heap.size ≤ (World.setRow x2 gO #[.int .i64 fc, .int .i64 fs.f0, .int .i64 fs.f1, .slice A2 pl c2]).heap.size := by simp
  generalize World.setRow x2 gO #[.int .i64 fc, .int .i64 fs.f0, .int .i64 fs.f1, .slice A2 pl c2] = x3 at hHeld2 GO GR GF Z3 ⊢
  refine hK.out _ _ hHeld2 (fun hHeld' => ?_)
  clear hHeld2
  clear hK K hHeld
  have hHeld := hHeld'
  clear hHeld'
  try simp only [Act.put, List.setIfInBounds_toArray, List.set_cons_zero, List.set_cons_succ]
  refine wpAnyH_done (by kernel_rfl) ?_ _
  have e0 := GO.at_ (j := 0) rfl
  have e1 := GO.at_ (j := 1) rfl
  have e2 := GO.at_ (j := 2) rfl
  have e3 := GO.at_ (j := 3) rfl
  have HBq := Lib.hid hHeld.2.2
  have HGF := Lib.hid GF
  have HS := Lib.hid hHeld.2.2.size
  have hu1 := mf1
  have hz9 : lo2 ≤ hi2 := mf2
  have hxs := Z3
  clear hHeld GO GF GR
  go_wp2_with fail
  refine bodyPost_ret (v := .agg #[.int .i64 fc, .int .i64 fs.f0, .int .i64 fs.f1, .slice A2 pl c2]) (by simp [results, Tryz.results5, go_sem, e0, e1, e2, e3]) rfl ?_
  exact ⟨A2, c2, lo2, hi2, rfl, HGF.out, Lib.hid (by unfold SepOutcome; omega), HBq.out⟩

end Go.Proofs.YtafekceggpbnlaaGreat
