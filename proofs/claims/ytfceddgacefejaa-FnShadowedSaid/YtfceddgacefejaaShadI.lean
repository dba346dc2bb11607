/- ShadowedRules of the program. -/
import Derived.Test.YtfceddgacefejaaShad
import Derived.Test.YtfceddgacefejaaFun
import Derived.Test.YtfceddgacefejaaSlI
import Derived.Test.YtfceddgacefejaaApp
import Derived.Test.YtfceddgacefejaaApT
import Derived.Test.YtfceddgacefejaaReg
import Derived.Handy
import Derived.Deep.LoopGhost
import Derived.WalkMore
import Derived.ScopeJumps
namespace Go.Proofs.Ytfceddgacefejaa
open Go Go.ChangeShapes Go.WideShapes Go.ChangeAt Go.RowKit Go.Lib
set_option linter.unusedVariables false
set_option linter.unusedSimpArgs false
set_option maxRecDepth 100000
def mShI (l : List TRule) (i : Int) : Bool := match l[i.toNat]? with | some x => l.any (fun r => mShad r x) | none => false
def mShR (l : List TRule) : List Int := (rangeI 0 l.length).filter (mShI l)
theorem mShR_len (l : List TRule) : (mShR l).length ≤ l.length := Nat.le_trans (List.length_filter_le _ _) (Nat.le_of_eq (rangeI_len _ _))
theorem loopvar (w : World) (t : TypeId) (zs cs : Array Value) : BoxAt ((w.alloc (.cells zs t)).setRow w.heap.size cs) w.heap.size t cs ∧ Below w.heap.size w ((w.alloc (.cells zs t)).setRow w.heap.size cs) :=
  ⟨box_row (box_new w t zs), below_setRow ((Below.refl _ _).alloc (Nat.le_refl _) _) (Nat.le_refl _) _⟩
theorem any_hit {α : Type} {p : α → Bool} {l : List α} {k : Nat} {x : α} (hz : l[k]? = some x) (h : p x = true) : l.any p = true := List.any_eq_true.2 ⟨x, List.mem_of_getElem? hz, h⟩
set_option maxHeartbeats 8000000 in
theorem impl_ShadowedRules (l : List TRule) (A : Option Addr) (n c lo hi : Nat) (w : World) (h0 : n ≤ 1048576) (hr : Rd w lo hi 8 A n (cRule l)) (b0 : Hid (cRuleOk l)) :
    Calls Try.prog 35 #[.slice A n c] w (Makes 3 1 (mShR l).length (i64s (mShR l)) w) := by
  have HL := Lib.hid (rd_len TRule.len hr (by decide))
  have HR := Lib.hid hr
  have hm : mShR l = (rangeI 0 n).filter (mShI l) := by rw [← HL.out]; rfl
  rw [hm]
  clear hr hm
  have HRL := Lib.hid (rangeI_len 0 n)
  have HRG := Lib.hid (fun (k : Nat) (h : k < n) => rangeI_get 0 h)
  generalize rangeI 0 n = L at HRL HRG ⊢
  generalize hp : mShI l = p
  have HP := Lib.hid (show ∀ (k : Nat) (x : TRule), l[k]? = some x → p (k : Int) = l.any (fun r => mShad r x) by
    rw [← hp]
    intro k x hx
    simp [mShI, hx])
  clear hp
  go_enter Try.func35, Try.ntmps35
  go_wp2_with fail
  go_step3
  go_wp2_with fail
  go_step3
  go_wp2_with fail
  go_loopg [3, 11] n (fun gg v i wr => ∃ (k : Nat) (vv : Value), vv = v ∧ k ≤ n ∧ n - k ≤ gg ∧ i = .int .i64 k ∧ Hid (wr.ownsRow w.heap.size 3 1 v ((L.take k).filter p).length (i64s ((L.take k).filter p))) ∧ Hid (Below w.heap.size w wr))
  case atStart => exact ⟨0, _, rfl, Nat.zero_le _, by omega, rfl, Lib.hid (by simpa using World.ownsRow_lit (base := w.heap.size) (e := 3) (size := 1) w #[] 0 (Nat.le_refl _) (by unfold maxLen; omega) rfl), Lib.hid ((Below.refl _ _).alloc (Nat.le_refl _) _)⟩
  case round =>
    obtain ⟨k, vv, rfl, hk, hg, rfl, HO, HB⟩ := hrel
    obtain ⟨wo, rfl⟩ : ∃ wo : World, wo = wr := ⟨_, rfl⟩
    by_cases hlt : k < n
    · obtain ⟨b, off, x, rfl, _, _, hz, hc⟩ := rd_elem TRule.len (HR.out.new HB.out) HL.out hlt
      have c0 : wo.cell? ⟨b, off + k * 8, none⟩ = _ := hc 0 _ rfl
      have c1 := hc 1 _ rfl
      have c2 := hc 2 _ rfl
      have c3 := hc 3 _ rfl
      have c4 := hc 4 _ rfl
      have c5 := hc 5 _ rfl
      have c6 := hc 6 _ rfl
      have c7 := hc 7 _ rfl
      have HN := Lib.hid (Nat.le_trans (List.length_filter_le p (L.take k)) (List.length_take_le _ _))
      have hE := filt_snoc (p := p) (HRG.out k hlt)
      rw [Int.zero_add, HP.out k x hz] at hE
      have HEt := Lib.hid (fun (h : l.any (fun r => mShad r x) = true) => hE.trans (if_pos h))
      have HEf := Lib.hid (fun (h : l.any (fun r => mShad r x) = false) => hE.trans (if_neg (by rw [h]; decide)))
      clear hE hz hc
      obtain ⟨HV, HBv⟩ := (⟨Lib.hid (loopvar wo 165 #[.int .i64 0, .int .i64 0, .int .i64 0, .int .i64 0, .int .i64 0, .int .i64 0, .int .i64 0, .int .i64 0] #[.int .i64 x.f0, .int .i64 x.f1, .int .i64 x.f2, .int .i64 x.f3, .int .i64 x.f4, .int .i64 x.f5, .int .i64 x.f6, .int .i64 x.f7]).1, Lib.hid (loopvar wo 165 #[.int .i64 0, .int .i64 0, .int .i64 0, .int .i64 0, .int .i64 0, .int .i64 0, .int .i64 0, .int .i64 0] #[.int .i64 x.f0, .int .i64 x.f1, .int .i64 x.f2, .int .i64 x.f3, .int .i64 x.f4, .int .i64 x.f5, .int .i64 x.f6, .int .i64 x.f7]).2⟩ : Hid _ ∧ Hid _)
      go_wp2_with (refine wpList_store_row rfl 165 _ _ rfl wo.heap.size #[.int .i64 x.f0, .int .i64 x.f1, .int .i64 x.f2, .int .i64 x.f3, .int .i64 x.f4, .int .i64 x.f5, .int .i64 x.f6, .int .i64 x.f7] rfl rfl 165 _ (box_new wo 165 #[.int .i64 0, .int .i64 0, .int .i64 0, .int .i64 0, .int .i64 0, .int .i64 0, .int .i64 0, .int .i64 0]) (by kernel_rfl) (by kernel_rfl) (by kernel_rfl) ?_; generalize World.setRow (wo.alloc (.cells #[.int .i64 0, .int .i64 0, .int .i64 0, .int .i64 0, .int .i64 0, .int .i64 0, .int .i64 0, .int .i64 0] 165)) wo.heap.size #[.int .i64 x.f0, .int .i64 x.f1, .int .i64 x.f2, .int .i64 x.f3, .int .i64 x.f4, .int .i64 x.f5, .int .i64 x.f6, .int .i64 x.f7] = w5 at HV HBv ⊢)
      have HB5 := Lib.hid (below_trans HB.out HBv.out (Nat.le_refl _))
      have HO5 := Lib.hid (own_newer HO.out HBv.out)
      have HR5 := Lib.hid (HR.out.new HB5.out)
      clear c0 c1 c2 c3 c4 c5 c6 c7 HBv HO HB
      go_loopg [3, 18] n (fun g2 v2 j wj => ∃ m : Nat, m ≤ n ∧ n - m ≤ g2 ∧ vv = v2 ∧ j = .int .i64 m ∧ Hid ((l.take m).any (fun r => mShad r x) = false) ∧ Hid (BoxAt wj wo.heap.size 165 #[.int .i64 x.f0, .int .i64 x.f1, .int .i64 x.f2, .int .i64 x.f3, .int .i64 x.f4, .int .i64 x.f5, .int .i64 x.f6, .int .i64 x.f7]) ∧ Hid (Below w5.heap.size w5 wj))
      case atStart => exact ⟨0, Nat.zero_le _, by omega, rfl, rfl, Lib.hid (by simp), HV, Lib.hid (Below.refl _ _)⟩
      case round =>
        obtain ⟨m, hm, hgm, rfl, rfl, HF, HVm, HBm⟩ := hrel
        have HO6 := Lib.hid (own_newer HO5.out HBm.out)
        have HB6 := Lib.hid (below_trans HB5.out HBm.out (Nat.le_refl _))
        clear HV
        by_cases hlm : m < n
        · obtain ⟨b2, off2, y, hA2, _, _, hz2, hc2⟩ := rd_elem TRule.len (HR5.out.new HBm.out) HL.out hlm
          cases hA2
          have d0 : wr.cell? ⟨b, off + m * 8, none⟩ = _ := hc2 0 _ rfl
          have d1 := hc2 1 _ rfl
          have d2 := hc2 2 _ rfl
          have d3 := hc2 3 _ rfl
          have d4 := hc2 4 _ rfl
          have d5 := hc2 5 _ rfl
          have d6 := hc2 6 _ rfl
          have d7 := hc2 7 _ rfl
          have HZ2 := Lib.hid hz2
          clear hz2 hc2
          have hcall := fun W => impl_shadows y x W
          obtain ⟨HW, HBw⟩ := (⟨Lib.hid (loopvar wr 165 #[.int .i64 0, .int .i64 0, .int .i64 0, .int .i64 0, .int .i64 0, .int .i64 0, .int .i64 0, .int .i64 0] #[.int .i64 y.f0, .int .i64 y.f1, .int .i64 y.f2, .int .i64 y.f3, .int .i64 y.f4, .int .i64 y.f5, .int .i64 y.f6, .int .i64 y.f7]).1, Lib.hid (loopvar wr 165 #[.int .i64 0, .int .i64 0, .int .i64 0, .int .i64 0, .int .i64 0, .int .i64 0, .int .i64 0, .int .i64 0] #[.int .i64 y.f0, .int .i64 y.f1, .int .i64 y.f2, .int .i64 y.f3, .int .i64 y.f4, .int .i64 y.f5, .int .i64 y.f6, .int .i64 y.f7]).2⟩ : Hid _ ∧ Hid _)
          cases hq : mShad y x with
          | true =>
            rw [hq] at hcall
            have HE := Lib.hid (HEt.out (any_hit HZ2.out hq))
            have HCall := Lib.hid hcall
            clear hq hcall HEt HEf
            go_wp2_with (refine wpList_store_row rfl 165 _ _ rfl wr.heap.size #[.int .i64 y.f0, .int .i64 y.f1, .int .i64 y.f2, .int .i64 y.f3, .int .i64 y.f4, .int .i64 y.f5, .int .i64 y.f6, .int .i64 y.f7] rfl rfl 165 _ (box_new wr 165 #[.int .i64 0, .int .i64 0, .int .i64 0, .int .i64 0, .int .i64 0, .int .i64 0, .int .i64 0, .int .i64 0]) (by kernel_rfl) (by kernel_rfl) (by kernel_rfl) ?_; generalize World.setRow (wr.alloc (.cells #[.int .i64 0, .int .i64 0, .int .i64 0, .int .i64 0, .int .i64 0, .int .i64 0, .int .i64 0, .int .i64 0] 165)) wr.heap.size #[.int .i64 y.f0, .int .i64 y.f1, .int .i64 y.f2, .int .i64 y.f3, .int .i64 y.f4, .int .i64 y.f5, .int .i64 y.f6, .int .i64 y.f7] = w6 at HW HBw ⊢; (have e0 := HW.out.at_ (j := 0) rfl); (have f0 := (HVm.out.new HBw.out).at_ (j := 0) rfl); (have e1 := HW.out.at_ (j := 1) rfl); (have f1 := (HVm.out.new HBw.out).at_ (j := 1) rfl); (have e2 := HW.out.at_ (j := 2) rfl); (have f2 := (HVm.out.new HBw.out).at_ (j := 2) rfl); (have e3 := HW.out.at_ (j := 3) rfl); (have f3 := (HVm.out.new HBw.out).at_ (j := 3) rfl); (have e4 := HW.out.at_ (j := 4) rfl); (have f4 := (HVm.out.new HBw.out).at_ (j := 4) rfl); (have e5 := HW.out.at_ (j := 5) rfl); (have f5 := (HVm.out.new HBw.out).at_ (j := 5) rfl); (have e6 := HW.out.at_ (j := 6) rfl); (have f6 := (HVm.out.new HBw.out).at_ (j := 6) rfl); (have e7 := HW.out.at_ (j := 7) rfl); (have f7 := (HVm.out.new HBw.out).at_ (j := 7) rfl))
            refine Calls.mono (HCall.out _) ?_
            rintro e w7 ⟨rfl, hb7⟩
            have HB7 := Lib.hid (below_trans (below_trans HB6.out HBw.out (Nat.le_refl _)) hb7 (Nat.le_refl _))
            have HO7 := Lib.hid (own_newer (own_newer HO6.out HBw.out) hb7)
            have HS7 := Lib.hid HB7.out.size
            clear hb7 HW HBw e0 f0 e1 f1 e2 f2 e3 f3 e4 f4 e5 f5 e6 f6 e7 f7
            go_wp2_with (at_builtin; refine wp_app_lit rfl _ _ _ rfl w.heap.size 3 (.int .i64 0) 1 8 Try.underlying60 info_intN rfl (by decide) _ _ _ rfl HO7.out #[.int .i64 (k : Int)] 1 1 _ rfl (by simp) rfl (one_intN _) (by have := HN.out; unfold maxLen; omega) (by have := HN.out; omega) (by have := HS7.out; first | omega | (simp <;> omega)) ?_; intro v1 w8 ho8 hb8)
            have HO8 := Lib.hid (show w8.ownsRow w.heap.size 3 1 v1 ((L.take (k + 1)).filter p).length (i64s ((L.take (k + 1)).filter p)) by
              rw [HE.out]
              simpa using ho8)
            have HB8 := Lib.hid (HB7.out.trans hb8)
            clear ho8 hb8
            go_wp2_with fail
            go_roundg (n - (k + 1))
            case measure => omega
            case rel => exact ⟨k + 1, _, rfl, by omega, by omega, by go_num, HO8, HB8⟩
          | false =>
            rw [hq] at hcall
            have HE := Lib.hid (any_step HF.out HZ2.out hq)
            have HCall := Lib.hid hcall
            clear hq hcall
            go_wp2_with (refine wpList_store_row rfl 165 _ _ rfl wr.heap.size #[.int .i64 y.f0, .int .i64 y.f1, .int .i64 y.f2, .int .i64 y.f3, .int .i64 y.f4, .int .i64 y.f5, .int .i64 y.f6, .int .i64 y.f7] rfl rfl 165 _ (box_new wr 165 #[.int .i64 0, .int .i64 0, .int .i64 0, .int .i64 0, .int .i64 0, .int .i64 0, .int .i64 0, .int .i64 0]) (by kernel_rfl) (by kernel_rfl) (by kernel_rfl) ?_; generalize World.setRow (wr.alloc (.cells #[.int .i64 0, .int .i64 0, .int .i64 0, .int .i64 0, .int .i64 0, .int .i64 0, .int .i64 0, .int .i64 0] 165)) wr.heap.size #[.int .i64 y.f0, .int .i64 y.f1, .int .i64 y.f2, .int .i64 y.f3, .int .i64 y.f4, .int .i64 y.f5, .int .i64 y.f6, .int .i64 y.f7] = w6 at HW HBw ⊢; (have e0 := HW.out.at_ (j := 0) rfl); (have f0 := (HVm.out.new HBw.out).at_ (j := 0) rfl); (have e1 := HW.out.at_ (j := 1) rfl); (have f1 := (HVm.out.new HBw.out).at_ (j := 1) rfl); (have e2 := HW.out.at_ (j := 2) rfl); (have f2 := (HVm.out.new HBw.out).at_ (j := 2) rfl); (have e3 := HW.out.at_ (j := 3) rfl); (have f3 := (HVm.out.new HBw.out).at_ (j := 3) rfl); (have e4 := HW.out.at_ (j := 4) rfl); (have f4 := (HVm.out.new HBw.out).at_ (j := 4) rfl); (have e5 := HW.out.at_ (j := 5) rfl); (have f5 := (HVm.out.new HBw.out).at_ (j := 5) rfl); (have e6 := HW.out.at_ (j := 6) rfl); (have f6 := (HVm.out.new HBw.out).at_ (j := 6) rfl); (have e7 := HW.out.at_ (j := 7) rfl); (have f7 := (HVm.out.new HBw.out).at_ (j := 7) rfl))
            refine Calls.mono (HCall.out _) ?_
            rintro e w7 ⟨rfl, hb7⟩
            have HVn := Lib.hid ((HVm.out.new HBw.out).new hb7)
            have HBn := Lib.hid (below_trans (below_trans HBm.out HBw.out (Nat.le_refl _)) hb7 (Nat.le_refl _))
            clear hb7 HW HBw e0 f0 e1 f1 e2 f2 e3 f3 e4 f4 e5 f5 e6 f6 e7 f7
            go_wp2_with fail
            go_roundg (n - (m + 1))
            case measure => omega
            case rel => exact ⟨m + 1, by omega, by omega, rfl, by go_num, HE, HVn, HBn⟩
        · obtain rfl : m = n := by omega
          have HE := Lib.hid (HEf.out (by have := HF.out; rwa [List.take_of_length_le (by rw [HL.out]; omega)] at this))
          go_wp2_with fail
          go_roundg (m - (k + 1))
          case measure => omega
          case rel => exact ⟨k + 1, _, rfl, by omega, by omega, by go_num, by rw [HE.out]; exact HO6, HB6⟩
    · obtain rfl : k = n := by omega
      have HO2 := HO.out
      rw [List.take_of_length_le (by rw [HRL.out]; omega)] at HO2
      replace HO2 := Lib.hid HO2
      go_wp2_with fail
      first | go_ret | (rw [Exit.noGoto_ret]; go_ret)
      exact makes_of_own HO2.out HB.out

end Go.Proofs.Ytfceddgacefejaa
