/- The law FnPrograms answers true for every argument, and leaves each argument as it was. No condition. -/
import Derived.Test.YtcankpiidjhhpaaYFrame
import Derived.Test.YtcankpiidjhhpaaYFacts
import Derived.Test.YtcankpiidjhhpaaYPrM
import Derived.Deep.DeepCutAuto
namespace Go.Proofs.Ytcankpiidjhhpaa.fnPrograms
open Go Go.ChangeShapes Go.WideShapes Go.ChangeAt Go.RowKit Go.Lib
open Go.ChangeMaps (open_string)
set_option linter.unusedVariables false
set_option linter.unusedSimpArgs false
set_option maxRecDepth 100000
set_option maxHeartbeats 32000000 in

theorem walk (A0 : Option Addr) (n0 c0 : Nat) (w0 : n0 ≤ maxLen) (w : World) (m0 : BytesAt w w.heap.size A0 n0) :
    Calls Try.prog 4 #[.slice A0 n0 c0] w fun e w' => e = .returned (.bool true) ∧ Below w.heap.size w w' := by
  have hn0 : n0 ≤ 9223372036854775807 := w0
  by_cases h : n0 ≤ 1048576
  · skip
    have g : decide ((1048576 : Int) < n0) = false := by simp; omega
    have M0 := Lib.hid m0
    clear m0
    go_enter Try.func4, Try.ntmps4
    go_wp2_with fail
    refine (big_any n0 c0 A0 _ w0).mono ?_
    rintro e w1 ⟨rfl, rfl⟩
    rw [g]
    have HB := Lib.hid (Below.refl w.heap.size w)
    go_wp2_with fail
    refine Calls.mono (drawPr_any n0 c0 A0 _ (by omega) (bytes_below M0.out HB.out)) ?_
    rintro e w2 ⟨A1, c1, l, A2, c2, v, A3, c3, f, x, rfl, hl, hu, hv, huv, hf, huf, hx1, hx3, hc1, hc2, hc3, hr1, hr2, hr3, hb⟩
    replace HB := Lib.hid (below_trans HB.out hb (Nat.le_refl _))
    clear hb
    have HU1 := Lib.hid (show cOpOk l from hu)
    have HU2 := Lib.hid (show I64s v from fun z hz => by have := huv z hz; constructor <;> omega)
    have HU3 := Lib.hid (show cFlowOk f from huf)
    obtain ⟨hi1, hh1⟩ : ∃ z, z = w2.heap.size := ⟨_, rfl⟩
    have HR1 := Lib.hid (show Rd w2 w.heap.size hi1 4 A1 l.length (cOp l) by rw [hh1]; exact hr1)
    have HR2 := Lib.hid (show Rd w2 w.heap.size hi1 1 A2 v.length (i64s v) by rw [hh1]; exact hr2)
    have HR3 := Lib.hid (show Rd w2 w.heap.size hi1 3 A3 f.length (cFlow f) by rw [hh1]; exact hr3)
    have WX := Lib.hid (show (Lit.int .i64 x).wf = true from WalkArith.wf_i64 (by constructor <;> omega))
    obtain ⟨ar, EA⟩ : ∃ z, mAreOps l = z := ⟨_, rfl⟩
    have EAH := Lib.hid EA
    obtain ⟨s, ES⟩ : ∃ z, mRunO l v f x = z := ⟨_, rfl⟩
    have ESH := Lib.hid ES
    have HSO := Lib.hid (show cSentOk s from ES ▸ (run_okS v f x).out)
    have hsl : s.length ≤ 16 := by rw [← ES]; exact mRunO_len l v f x
    have garr : (ar != ar) = false := by simp
    clear hh1 hu huv huf hr1 hr2 hr3 EA ES
    go_wp2_with fail
    refine Calls.mono (prun_eq l A1 l.length c1 _ _ v A2 v.length c2 _ _ f A3 f.length c3 _ _ x s ESH.out _ (by omega) HR1.out hc1 HU1 (by omega) HR2.out hc2 HU2 (by omega) HR3.out hc3 HU3 WX.out) ?_
    rintro e w3 ⟨A4, c4, rfl, hF, hb⟩
    replace HR1 := Lib.hid (HR1.out.new hb)
    replace HR2 := Lib.hid (HR2.out.new hb)
    replace HR3 := Lib.hid (HR3.out.new hb)
    replace HB := Lib.hid (below_trans HB.out hb (Nat.le_refl _))
    clear hb
    have hc4 := hF.cap
    obtain ⟨lo4, hi4, HS⟩ : ∃ lo hi, Hid (Rd w3 lo hi 3 A4 s.length (cSent s)) := ⟨_, _, Lib.hid hF.rd⟩
    clear hF
    go_wp2_with fail
    refine Calls.mono (par_eq l A1 l.length c1 _ _ ar EAH.out _ (by omega) HR1.out hc1 HU1) ?_
    rintro e w4 ⟨rfl, hb⟩
    replace HR1 := Lib.hid (HR1.out.new hb)
    replace HR2 := Lib.hid (HR2.out.new hb)
    replace HR3 := Lib.hid (HR3.out.new hb)
    replace HS := Lib.hid (HS.out.new hb)
    replace HB := Lib.hid (below_trans HB.out hb (Nat.le_refl _))
    clear hb
    go_wp2_with fail
    refine Calls.mono (pars_eq l A1 l.length c1 _ _ ar EAH.out _ (by omega) HR1.out hc1 HU1) ?_
    rintro e w5 ⟨rfl, hb⟩
    replace HR1 := Lib.hid (HR1.out.new hb)
    replace HR2 := Lib.hid (HR2.out.new hb)
    replace HR3 := Lib.hid (HR3.out.new hb)
    replace HS := Lib.hid (HS.out.new hb)
    replace HB := Lib.hid (below_trans HB.out hb (Nat.le_refl _))
    clear hb
    go_wp2_with fail
    refine Calls.mono (par_eq l A1 l.length c1 _ _ ar EAH.out _ (by omega) HR1.out hc1 HU1) ?_
    rintro e w6 ⟨rfl, hb⟩
    replace HR1 := Lib.hid (HR1.out.new hb)
    replace HR2 := Lib.hid (HR2.out.new hb)
    replace HR3 := Lib.hid (HR3.out.new hb)
    replace HS := Lib.hid (HS.out.new hb)
    replace HB := Lib.hid (below_trans HB.out hb (Nat.le_refl _))
    clear hb
    cases ar with
    | false =>
      have HN := prog_none EAH.out v f x
      obtain rfl : s = [] := ESH.out.symm.trans HN.1
      have E1 := Lib.hid HN.2.1
      have E2 := Lib.hid HN.2.2
      clear HN
      go_wp2_with fail
      refine Calls.mono (plab_eq l A1 l.length c1 _ _ [] E1.out _ (by omega) HR1.out hc1 HU1) ?_
      rintro e w7 ⟨A5, c5, rfl, hF, hb⟩
      replace HR1 := Lib.hid (HR1.out.new hb)
      replace HR2 := Lib.hid (HR2.out.new hb)
      replace HR3 := Lib.hid (HR3.out.new hb)
      replace HS := Lib.hid (HS.out.new hb)
      replace HB := Lib.hid (below_trans HB.out hb (Nat.le_refl _))
      clear hb
      clear hF
      go_wp2_with fail
      refine Calls.mono (pneed_eq l A1 l.length c1 _ _ x [] E2.out _ (by omega) HR1.out hc1 HU1 WX.out) ?_
      rintro e w8 ⟨A6, c6, rfl, hF, hb⟩
      replace HR1 := Lib.hid (HR1.out.new hb)
      replace HR2 := Lib.hid (HR2.out.new hb)
      replace HR3 := Lib.hid (HR3.out.new hb)
      replace HS := Lib.hid (HS.out.new hb)
      replace HB := Lib.hid (below_trans HB.out hb (Nat.le_refl _))
      clear hb
      clear hF
      go_wp2_with fail
      go_ret
      exact ⟨rfl, HB.out⟩
    | true =>
      have HP1 := Lib.hid (fun s (h : s ∈ mRunO l v f x) => prog_sent EAH.out v f x s h)
      have HP2 := prog_le EAH.out v f x
      have HP3 := Lib.hid (prog_need EAH.out v hx1 hx3)
      have HP4 := prog_labs EAH.out
      have hsd : mSends l ≤ l.length := List.countP_le_length
      rw [ESH.out] at HP1 HP2
      go_wp2_with fail
      go_loopg [8] s.length (fun gg i wr => ∃ k : Nat, k ≤ s.length ∧ s.length - k ≤ gg ∧ i = .int .i64 k ∧ Hid (Rd wr w.heap.size hi1 4 A1 l.length (cOp l)) ∧ Hid (Rd wr w.heap.size hi1 1 A2 v.length (i64s v)) ∧ Hid (Rd wr w.heap.size hi1 3 A3 f.length (cFlow f)) ∧ Hid (Rd wr lo4 hi4 3 A4 s.length (cSent s)) ∧ Hid (Below w.heap.size w wr))
      case atStart => exact ⟨0, Nat.zero_le _, by omega, rfl, HR1, HR2, HR3, HS, HB⟩
      case round =>
        clear HR1 HR2 HR3 HS HB
        obtain ⟨k, hk, hg, rfl, HR1, HR2, HR3, HS, HB⟩ := hrel
        have hszr : w.heap.size ≤ wr.heap.size := HB.out.size
        by_cases hlt : k < s.length
        · skip
          have hlti : (k : Int) < (s.length : Int) := by omega
          obtain ⟨b1, off, t, rfl, _, _, hz, hc⟩ := rd_elem TSent.len HS.out rfl hlt
          obtain ⟨EM, t0, t9⟩ := HP1.out t (List.mem_of_getElem? hz)
          have c0' : wr.cell? ⟨b1, off + k * 3, none⟩ = _ := hc 0 _ rfl
          have c1' : wr.cell? ⟨b1, off + k * 3 + 1, none⟩ = _ := hc 1 _ rfl
          have c2' : wr.cell? ⟨b1, off + k * 3 + 2, none⟩ = _ := hc 2 _ rfl
          have d1 : decide (t.f1 < 0) = false := decide_eq_false (by omega)
          have d2 : decide (t.f1 > 999) = false := decide_eq_false (by omega)
          have d3 : decide (999 < t.f1) = false := decide_eq_false (by omega)
          have HCM := Lib.hid (fun W (hW : Below wr.heap.size wr W) => pmay_eq f A3 f.length c3 _ _ x t.f2 t.f0 true EM W (by omega) (HR3.out.new hW) HU3)
          have EMH := Lib.hid EM
          clear hz hc EM
          go_wp2_with fail
          refine wp_region_held_drew (S := fun w' => Below wr.heap.size wr w') (by kernel_rfl) ?_ (fun hHeld => ?_)
          · exact ((Below.refl _ _).drew)
          refine wpAnyH_take (i := 0) (oi := ⟨some 58, _, _, _, _, _⟩) (v := ?_) rfl (by kernel_rfl) (by kernel_rfl) (by kernel_rfl) (fun _ _ _ h => h) (Or.inl ⟨by kernel_rfl, ?_⟩) hHeld ?_
          rotate_left
          focus (intro W hS; skip; clear hS; first | (go_simp; done) | (go_simp; with_reducible rfl))
          try simp only [Act.put, List.setIfInBounds_toArray, List.set_cons_zero, List.set_cons_succ]
          refine wpAnyH_take (i := 1) (oi := ⟨some 59, _, _, _, _, _⟩) (v := ?_) rfl (by kernel_rfl) (by kernel_rfl) (by kernel_rfl) (fun _ _ _ h => h) (Or.inl ⟨by kernel_rfl, ?_⟩) hHeld ?_
          rotate_left
          focus (intro W hS; skip; clear hS; first | (go_simp; done) | (go_simp; with_reducible rfl))
          try simp only [Act.put, List.setIfInBounds_toArray, List.set_cons_zero, List.set_cons_succ]
          refine wpAnyH_take (i := 2) (oi := ⟨some 60, _, _, _, _, _⟩) (v := ?_) rfl (by kernel_rfl) (by kernel_rfl) (by kernel_rfl) (fun _ _ _ h => h) (Or.inl ⟨by kernel_rfl, ?_⟩) hHeld ?_
          rotate_left
          focus (intro W hS; skip; clear hS; first | (go_simp; done) | (go_simp; with_reducible rfl))
          try simp only [Act.put, List.setIfInBounds_toArray, List.set_cons_zero, List.set_cons_succ]
          refine wpAnyH_take (i := 3) (oi := ⟨some 61, _, _, _, _, _⟩) (v := ?_) rfl (by kernel_rfl) (by kernel_rfl) (by kernel_rfl) (fun _ _ _ h => h) (Or.inl ⟨by kernel_rfl, ?_⟩) hHeld ?_
          rotate_left
          focus (intro W hS; skip; clear hS; first | (go_simp; done) | (go_simp; with_reducible rfl))
          try simp only [Act.put, List.setIfInBounds_toArray, List.set_cons_zero, List.set_cons_succ]
          refine wpAnyH_take (i := 4) (oi := ⟨some 62, _, _, _, _, _⟩) (v := ?_) rfl (by kernel_rfl) (by kernel_rfl) (by kernel_rfl) (fun _ _ _ h => h) (Or.inl ⟨by kernel_rfl, ?_⟩) hHeld ?_
          rotate_left
          focus (intro W hS; skip; clear hS; first | (go_simp; done) | (go_simp; with_reducible rfl))
          try simp only [Act.put, List.setIfInBounds_toArray, List.set_cons_zero, List.set_cons_succ]
          refine wpAnyH_take (i := 5) (oi := ⟨some 63, _, _, _, _, _⟩) (v := ?_) rfl (by kernel_rfl) (by kernel_rfl) (by kernel_rfl) (fun _ _ _ h => h) (Or.inl ⟨by kernel_rfl, ?_⟩) hHeld ?_
          rotate_left
          focus (intro W hS; skip; clear hS; first | (go_simp; done) | (go_simp; with_reducible rfl))
          try simp only [Act.put, List.setIfInBounds_toArray, List.set_cons_zero, List.set_cons_succ]
          refine wpAnyH_take (i := 6) (oi := ⟨some 64, _, _, _, _, _⟩) (v := ?_) rfl (by kernel_rfl) (by kernel_rfl) (by kernel_rfl) (fun _ _ _ h => h) (Or.inl ⟨by kernel_rfl, ?_⟩) hHeld ?_
          rotate_left
          focus (intro W hS; have c0 := cell_nw hS c0'; have c1 := cell_nw hS c1'; have c2 := cell_nw hS c2'; clear hS; first | (go_simp; done) | (go_simp; with_reducible rfl))
          try simp only [Act.put, List.setIfInBounds_toArray, List.set_cons_zero, List.set_cons_succ]
          refine wpAnyH_take (i := 7) (oi := ⟨some 65, _, _, _, _, _⟩) (v := ?_) rfl (by kernel_rfl) (by kernel_rfl) (by kernel_rfl) (fun _ _ _ h => h) (Or.inl ⟨by kernel_rfl, ?_⟩) hHeld ?_
          rotate_left
          focus (intro W hS; skip; clear hS; first | (go_simp; done) | (go_simp; with_reducible rfl))
          try simp only [Act.put, List.setIfInBounds_toArray, List.set_cons_zero, List.set_cons_succ]
          refine wpAnyH_take (i := 8) (oi := ⟨some 66, _, _, _, _, _⟩) (v := ?_) rfl (by kernel_rfl) (by kernel_rfl) (by kernel_rfl) (fun _ _ _ h => h) (Or.inl ⟨by kernel_rfl, ?_⟩) hHeld ?_
          rotate_left
          focus (intro W hS; skip; clear hS; first | (go_simp; done) | (go_simp; with_reducible rfl))
          try simp only [Act.put, List.setIfInBounds_toArray, List.set_cons_zero, List.set_cons_succ]
          refine wpAnyH_take (i := 9) (oi := ⟨some 67, _, _, _, _, _⟩) (v := ?_) rfl (by kernel_rfl) (by kernel_rfl) (by kernel_rfl) (fun _ _ _ h => h) (Or.inl ⟨by kernel_rfl, ?_⟩) hHeld ?_
          rotate_left
          focus (intro W hS; skip; clear hS; first | (go_simp; done) | (go_simp; with_reducible rfl))
          try simp only [Act.put, List.setIfInBounds_toArray, List.set_cons_zero, List.set_cons_succ]
          refine wpAnyH_take (i := 10) (oi := ⟨some 68, _, _, _, _, _⟩) (v := ?_) rfl (by kernel_rfl) (by kernel_rfl) (by kernel_rfl) (fun _ _ _ h => h) (Or.inl ⟨by kernel_rfl, ?_⟩) hHeld ?_
          rotate_left
          focus (intro W hS; skip; clear hS; first | (go_simp; done) | (go_simp; with_reducible rfl))
          try simp only [Act.put, List.setIfInBounds_toArray, List.set_cons_zero, List.set_cons_succ]
          refine wpAnyH_take (i := 11) (oi := ⟨some 69, _, _, _, _, _⟩) (v := ?_) rfl (by kernel_rfl) (by kernel_rfl) (by kernel_rfl) (fun _ _ _ h => h) (Or.inl ⟨by kernel_rfl, ?_⟩) hHeld ?_
          rotate_left
          focus (intro W hS; have c0 := cell_nw hS c0'; have c1 := cell_nw hS c1'; have c2 := cell_nw hS c2'; clear hS; first | (go_simp; done) | (go_simp; with_reducible rfl))
          try simp only [Act.put, List.setIfInBounds_toArray, List.set_cons_zero, List.set_cons_succ]
          refine wpAnyH_ready (rs := [12]) (by kernel_rfl) (by simp) ?_
          refine AllReadyH.cons (o := ⟨some 70, _, _, _, _, _⟩) rfl (fun K hK => ?_) AllReadyH.nil
          go_simp
          refine Calls.mono (HCM.out _ hHeld) ?_
          rintro e x1 ⟨rfl, hb1⟩
          refine hK.out _ _ (below_trans hHeld hb1 (Nat.le_refl _)) (fun hHeld' => ?_)
          clear hK K hHeld hb1
          have hHeld := hHeld'
          clear hHeld'
          try simp only [Act.put, List.setIfInBounds_toArray, List.set_cons_zero, List.set_cons_succ]
          refine wpAnyH_take (i := 13) (oi := ⟨some 71, _, _, _, _, _⟩) (v := ?_) rfl (by kernel_rfl) (by kernel_rfl) (by kernel_rfl) (fun _ _ _ h => h) (Or.inl ⟨by kernel_rfl, ?_⟩) hHeld ?_
          rotate_left
          focus (intro W hS; skip; clear hS; first | (go_simp; done) | (go_simp; with_reducible rfl))
          try simp only [Act.put, List.setIfInBounds_toArray, List.set_cons_zero, List.set_cons_succ]
          refine wpAnyH_take (i := 14) (oi := ⟨some 72, _, _, _, _, _⟩) (v := ?_) rfl (by kernel_rfl) (by kernel_rfl) (by kernel_rfl) (fun _ _ _ h => h) (Or.inl ⟨by kernel_rfl, ?_⟩) hHeld ?_
          rotate_left
          focus (intro W hS; skip; clear hS; first | (go_simp; done) | (go_simp; with_reducible rfl))
          try simp only [Act.put, List.setIfInBounds_toArray, List.set_cons_zero, List.set_cons_succ]
          refine wpAnyH_take (i := 15) (oi := ⟨some 73, _, _, _, _, _⟩) (v := ?_) rfl (by kernel_rfl) (by kernel_rfl) (by kernel_rfl) (fun _ _ _ h => h) (Or.inl ⟨by kernel_rfl, ?_⟩) hHeld ?_
          rotate_left
          focus (intro W hS; skip; clear hS; first | (go_simp; done) | (go_simp; with_reducible rfl))
          try simp only [Act.put, List.setIfInBounds_toArray, List.set_cons_zero, List.set_cons_succ]
          refine wpAnyH_take (i := 16) (oi := ⟨some 74, _, _, _, _, _⟩) (v := ?_) rfl (by kernel_rfl) (by kernel_rfl) (by kernel_rfl) (fun _ _ _ h => h) (Or.inl ⟨by kernel_rfl, ?_⟩) hHeld ?_
          rotate_left
          focus (intro W hS; skip; clear hS; first | (go_simp; done) | (go_simp; with_reducible rfl))
          try simp only [Act.put, List.setIfInBounds_toArray, List.set_cons_zero, List.set_cons_succ]
          refine wpAnyH_take (i := 17) (oi := ⟨some 75, _, _, _, _, _⟩) (v := ?_) rfl (by kernel_rfl) (by kernel_rfl) (by kernel_rfl) (fun _ _ _ h => h) (Or.inl ⟨by kernel_rfl, ?_⟩) hHeld ?_
          rotate_left
          focus (intro W hS; skip; clear hS; first | (go_simp; done) | (go_simp; with_reducible rfl))
          try simp only [Act.put, List.setIfInBounds_toArray, List.set_cons_zero, List.set_cons_succ]
          refine wpAnyH_take (i := 18) (oi := ⟨some 76, _, _, _, _, _⟩) (v := ?_) rfl (by kernel_rfl) (by kernel_rfl) (by kernel_rfl) (fun _ _ _ h => h) (Or.inl ⟨by kernel_rfl, ?_⟩) hHeld ?_
          rotate_left
          focus (intro W hS; skip; clear hS; first | (go_simp; done) | (go_simp; with_reducible rfl))
          try simp only [Act.put, List.setIfInBounds_toArray, List.set_cons_zero, List.set_cons_succ]
          refine wpAnyH_take (i := 19) (oi := ⟨some 77, _, _, _, _, _⟩) (v := ?_) rfl (by kernel_rfl) (by kernel_rfl) (by kernel_rfl) (fun _ _ _ h => h) (Or.inl ⟨by kernel_rfl, ?_⟩) hHeld ?_
          rotate_left
          focus (intro W hS; have c0 := cell_nw hS c0'; have c1 := cell_nw hS c1'; have c2 := cell_nw hS c2'; clear hS; first | (go_simp; done) | (go_simp; with_reducible rfl))
          try simp only [Act.put, List.setIfInBounds_toArray, List.set_cons_zero, List.set_cons_succ]
          refine wpAnyH_take (i := 20) (oi := ⟨some 78, _, _, _, _, _⟩) (v := ?_) rfl (by kernel_rfl) (by kernel_rfl) (by kernel_rfl) (fun _ _ _ h => h) (Or.inl ⟨by kernel_rfl, ?_⟩) hHeld ?_
          rotate_left
          focus (intro W hS; skip; clear hS; first | (go_simp; done) | (go_simp; with_reducible rfl))
          try simp only [Act.put, List.setIfInBounds_toArray, List.set_cons_zero, List.set_cons_succ]
          refine wpAnyH_take (i := 21) (oi := ⟨some 79, _, _, _, _, _⟩) (v := ?_) rfl (by kernel_rfl) (by kernel_rfl) (by kernel_rfl) (fun _ _ _ h => h) (Or.inl ⟨by kernel_rfl, ?_⟩) hHeld ?_
          rotate_left
          focus (intro W hS; skip; clear hS; first | (go_simp; done) | (go_simp; with_reducible rfl))
          try simp only [Act.put, List.setIfInBounds_toArray, List.set_cons_zero, List.set_cons_succ]
          refine wpAnyH_take (i := 22) (oi := ⟨some 80, _, _, _, _, _⟩) (v := ?_) rfl (by kernel_rfl) (by kernel_rfl) (by kernel_rfl) (fun _ _ _ h => h) (Or.inl ⟨by kernel_rfl, ?_⟩) hHeld ?_
          rotate_left
          focus (intro W hS; skip; clear hS; first | (go_simp; done) | (go_simp; with_reducible rfl))
          try simp only [Act.put, List.setIfInBounds_toArray, List.set_cons_zero, List.set_cons_succ]
          refine wpAnyH_take (i := 23) (oi := ⟨some 81, _, _, _, _, _⟩) (v := ?_) rfl (by kernel_rfl) (by kernel_rfl) (by kernel_rfl) (fun _ _ _ h => h) (Or.inl ⟨by kernel_rfl, ?_⟩) hHeld ?_
          rotate_left
          focus (intro W hS; skip; clear hS; first | (go_simp; done) | (go_simp; with_reducible rfl))
          try simp only [Act.put, List.setIfInBounds_toArray, List.set_cons_zero, List.set_cons_succ]
          refine wpAnyH_take (i := 24) (oi := ⟨some 82, _, _, _, _, _⟩) (v := ?_) rfl (by kernel_rfl) (by kernel_rfl) (by kernel_rfl) (fun _ _ _ h => h) (Or.inl ⟨by kernel_rfl, ?_⟩) hHeld ?_
          rotate_left
          focus (intro W hS; skip; clear hS; first | (go_simp; done) | (go_simp; with_reducible rfl))
          try simp only [Act.put, List.setIfInBounds_toArray, List.set_cons_zero, List.set_cons_succ]
          refine wpAnyH_take (i := 25) (oi := ⟨some 83, _, _, _, _, _⟩) (v := ?_) rfl (by kernel_rfl) (by kernel_rfl) (by kernel_rfl) (fun _ _ _ h => h) (Or.inl ⟨by kernel_rfl, ?_⟩) hHeld ?_
          rotate_left
          focus (intro W hS; skip; clear hS; first | (go_simp; done) | (go_simp; with_reducible rfl))
          try simp only [Act.put, List.setIfInBounds_toArray, List.set_cons_zero, List.set_cons_succ]
          refine wpAnyH_take (i := 26) (oi := ⟨some 84, _, _, _, _, _⟩) (v := ?_) rfl (by kernel_rfl) (by kernel_rfl) (by kernel_rfl) (fun _ _ _ h => h) (Or.inl ⟨by kernel_rfl, ?_⟩) hHeld ?_
          rotate_left
          focus (intro W hS; skip; clear hS; first | (go_simp; done) | (go_simp; with_reducible rfl))
          try simp only [Act.put, List.setIfInBounds_toArray, List.set_cons_zero, List.set_cons_succ]
          refine wpAnyH_take (i := 27) (oi := ⟨some 85, _, _, _, _, _⟩) (v := ?_) rfl (by kernel_rfl) (by kernel_rfl) (by kernel_rfl) (fun _ _ _ h => h) (Or.inl ⟨by kernel_rfl, ?_⟩) hHeld ?_
          rotate_left
          focus (intro W hS; have c0 := cell_nw hS c0'; have c1 := cell_nw hS c1'; have c2 := cell_nw hS c2'; clear hS; first | (go_simp; done) | (go_simp; with_reducible rfl))
          try simp only [Act.put, List.setIfInBounds_toArray, List.set_cons_zero, List.set_cons_succ]
          refine wpAnyH_take (i := 28) (oi := ⟨some 86, _, _, _, _, _⟩) (v := ?_) rfl (by kernel_rfl) (by kernel_rfl) (by kernel_rfl) (fun _ _ _ h => h) (Or.inl ⟨by kernel_rfl, ?_⟩) hHeld ?_
          rotate_left
          focus (intro W hS; skip; clear hS; first | (go_simp; done) | (go_simp; with_reducible rfl))
          try simp only [Act.put, List.setIfInBounds_toArray, List.set_cons_zero, List.set_cons_succ]
          refine wpAnyH_take (i := 29) (oi := ⟨some 87, _, _, _, _, _⟩) (v := ?_) rfl (by kernel_rfl) (by kernel_rfl) (by kernel_rfl) (fun _ _ _ h => h) (Or.inl ⟨by kernel_rfl, ?_⟩) hHeld ?_
          rotate_left
          focus (intro W hS; skip; clear hS; first | (go_simp; done) | (go_simp; with_reducible rfl))
          try simp only [Act.put, List.setIfInBounds_toArray, List.set_cons_zero, List.set_cons_succ]
          refine wpAnyH_done (by kernel_rfl) ?_ _
          have HBx := Lib.hid hHeld
          clear hHeld
          replace HR1 := Lib.hid (HR1.out.new HBx.out)
          replace HR2 := Lib.hid (HR2.out.new HBx.out)
          replace HR3 := Lib.hid (HR3.out.new HBx.out)
          replace HS := Lib.hid (HS.out.new HBx.out)
          replace HB := Lib.hid (below_trans HB.out HBx.out (Nat.le_refl _))
          go_wp2_with fail
          go_roundg (s.length - (k + 1))
          case measure => omega
          case rel => exact ⟨k + 1, by omega, by omega, by go_num, HR1, HR2, HR3, HS, HB⟩
        · obtain rfl : k = s.length := by omega
          have hfin : ¬ ((s.length : Int) < (s.length : Int)) := by omega
          clear HP1
          go_wp2_with fail
          go_loopg [9, 10] l.length (fun gg u i wr => ∃ k : Nat, k ≤ l.length ∧ l.length - k ≤ gg ∧ u = .int .i64 ((mSends (l.take k) : Nat) : Int) ∧ i = .int .i64 k ∧ Hid (Rd wr w.heap.size hi1 4 A1 l.length (cOp l)) ∧ Hid (Rd wr w.heap.size hi1 1 A2 v.length (i64s v)) ∧ Hid (Rd wr w.heap.size hi1 3 A3 f.length (cFlow f)) ∧ Hid (Rd wr lo4 hi4 3 A4 s.length (cSent s)) ∧ Hid (Below w.heap.size w wr))
          case atStart => exact ⟨0, Nat.zero_le _, by omega, by simp [mSends], rfl, HR1, HR2, HR3, HS, HB⟩
          case round =>
            clear HR1 HR2 HR3 HS HB
            obtain ⟨k, hk, hg, rfl, rfl, HR1, HR2, HR3, HS, HB⟩ := hrel
            have hszr : w.heap.size ≤ wr.heap.size := HB.out.size
            by_cases hlt : k < l.length
            · skip
              have hlti : (k : Int) < (l.length : Int) := by omega
              obtain ⟨b1, off, o, rfl, _, _, hz, hc⟩ := rd_elem TOp.len HR1.out rfl hlt
              have e0 : wr.cell? ⟨b1, off + k * 4, none⟩ = _ := hc 0 _ rfl
              have HT := Lib.hid (sends_take hz)
              have hsk : mSends (l.take k) ≤ k := Nat.le_trans List.countP_le_length (by rw [List.length_take]; omega)
              generalize hsq : mSends (l.take k) = sk at HT hsk ⊢
              clear hz hc hsq
              by_cases h5 : (o.f0 == 5) = true
              · skip
                rw [if_pos h5] at HT
                have hwr : IntKind.i64.wrap ((sk : Int) + 1) = (sk : Int) + 1 := IntWalk.i64_in _ (by omega)
                go_wp2_with fail
                go_roundg (l.length - (k + 1))
                case measure => omega
                case rel => exact ⟨k + 1, by omega, by omega, by rw [HT.out]; go_num, by go_num, HR1, HR2, HR3, HS, HB⟩
              · have h5' : (o.f0 == 5) = false := by simpa using h5
                rw [if_neg h5] at HT
                clear h5
                go_wp2_with fail
                go_roundg (l.length - (k + 1))
                case measure => omega
                case rel => exact ⟨k + 1, by omega, by omega, by rw [HT.out]; rfl, by go_num, HR1, HR2, HR3, HS, HB⟩
            · obtain rfl : k = l.length := by omega
              have hfin2 : ¬ ((l.length : Int) < (l.length : Int)) := by omega
              rw [List.take_length]
              obtain ⟨ns, hns⟩ : ∃ z, mSends l = z := ⟨_, rfl⟩
              rw [hns] at HP2 HP3 hsd ⊢
              obtain ⟨B, EB⟩ : ∃ z, mLAft l = z := ⟨_, rfl⟩
              have EBH := Lib.hid EB
              rw [EB] at HP4
              have hB6 := HP4.1
              have HBL := Lib.hid HP4.2
              clear EB HP4
              go_wp2_with fail
              refine Calls.mono (plab_eq l A1 l.length c1 _ _ B EBH.out _ (by omega) HR1.out hc1 HU1) ?_
              rintro e w7 ⟨A5, c5, rfl, hF, hb⟩
              replace HR1 := Lib.hid (HR1.out.new hb)
              replace HR2 := Lib.hid (HR2.out.new hb)
              replace HR3 := Lib.hid (HR3.out.new hb)
              replace HS := Lib.hid (HS.out.new hb)
              replace HB := Lib.hid (below_trans HB.out hb (Nat.le_refl _))
              clear hb
              obtain ⟨lo5, hi5, HBR⟩ : ∃ lo hi, Hid (Rd w7 lo hi 1 A5 B.length (i64s B)) := ⟨_, _, Lib.hid hF.rd⟩
              clear hF
              go_wp2_with fail
              go_loopg [12] B.length (fun gg i wr => ∃ k : Nat, k ≤ B.length ∧ B.length - k ≤ gg ∧ i = .int .i64 k ∧ Hid (Rd wr w.heap.size hi1 4 A1 l.length (cOp l)) ∧ Hid (Rd wr w.heap.size hi1 1 A2 v.length (i64s v)) ∧ Hid (Rd wr w.heap.size hi1 3 A3 f.length (cFlow f)) ∧ Hid (Rd wr lo4 hi4 3 A4 s.length (cSent s)) ∧ Hid (Rd wr lo5 hi5 1 A5 B.length (i64s B)) ∧ Hid (Below w.heap.size w wr))
              case atStart => exact ⟨0, Nat.zero_le _, by omega, rfl, HR1, HR2, HR3, HS, HBR, HB⟩
              case round =>
                clear HR1 HR2 HR3 HS HBR HB
                obtain ⟨k, hk, hg, rfl, HR1, HR2, HR3, HS, HBR, HB⟩ := hrel
                have hszr : w.heap.size ≤ wr.heap.size := HB.out.size
                by_cases hlt : k < B.length
                · skip
                  have hlti : (k : Int) < (B.length : Int) := by omega
                  obtain ⟨b1, off, o, rfl, _, _, hz, hc⟩ := rd_int HBR.out hlt
                  have HLO := Lib.hid (HBL.out o (List.mem_of_getElem? hz))
                  clear hz
                  go_wp2_with fail
                  refine Calls.mono (pisl_eq o true HLO.out _) ?_
                  rintro e w8 ⟨rfl, hb⟩
                  replace HR1 := Lib.hid (HR1.out.new hb)
                  replace HR2 := Lib.hid (HR2.out.new hb)
                  replace HR3 := Lib.hid (HR3.out.new hb)
                  replace HS := Lib.hid (HS.out.new hb)
                  replace HBR := Lib.hid (HBR.out.new hb)
                  replace HB := Lib.hid (below_trans HB.out hb (Nat.le_refl _))
                  clear hb
                  clear hc
                  go_wp2_with fail
                  go_roundg (B.length - (k + 1))
                  case measure => omega
                  case rel => exact ⟨k + 1, by omega, by omega, by go_num, HR1, HR2, HR3, HS, HBR, HB⟩
                · obtain rfl : k = B.length := by omega
                  have hfin3 : ¬ ((B.length : Int) < (B.length : Int)) := by omega
                  obtain ⟨nd, EN⟩ : ∃ z, mNeed l x = z := ⟨_, rfl⟩
                  have ENH := Lib.hid EN
                  have HNO := Lib.hid (show cFlowOk nd from EN ▸ (need_okF l hx1 hx3).out)
                  have hnl : nd.length ≤ 144 := by rw [← EN]; exact mNeed_len l x
                  rw [EN] at HP3
                  obtain ⟨s2, ES2⟩ : ∃ z, mRunO l v nd x = z := ⟨_, rfl⟩
                  have ES2H := Lib.hid ES2
                  rw [ES2] at HP3
                  have hs2 := HP3.out
                  clear EN ES2 HP3
                  go_wp2_with fail
                  refine Calls.mono (pneed_eq l A1 l.length c1 _ _ x nd ENH.out _ (by omega) HR1.out hc1 HU1 WX.out) ?_
                  rintro e w8 ⟨A6, c6, rfl, hF, hb⟩
                  replace HR1 := Lib.hid (HR1.out.new hb)
                  replace HR2 := Lib.hid (HR2.out.new hb)
                  replace HR3 := Lib.hid (HR3.out.new hb)
                  replace HS := Lib.hid (HS.out.new hb)
                  replace HBR := Lib.hid (HBR.out.new hb)
                  replace HB := Lib.hid (below_trans HB.out hb (Nat.le_refl _))
                  clear hb
                  have hc6 := hF.cap
                  have HND := Lib.hid hF.rd
                  clear hF
                  have g1 : decide ((s.length : Int) ≤ (ns : Int)) = true := decide_eq_true (by omega)
                  go_wp2_with fail
                  refine Calls.mono (prun_eq l A1 l.length c1 _ _ v A2 v.length c2 _ _ nd A6 nd.length c6 _ _ x s2 ES2H.out _ (by omega) HR1.out hc1 HU1 (by omega) HR2.out hc2 HU2 (by omega) HND.out hc6 HNO WX.out) ?_
                  rintro e w9 ⟨A7, c7, rfl, hF, hb⟩
                  replace HR1 := Lib.hid (HR1.out.new hb)
                  replace HR2 := Lib.hid (HR2.out.new hb)
                  replace HR3 := Lib.hid (HR3.out.new hb)
                  replace HS := Lib.hid (HS.out.new hb)
                  replace HBR := Lib.hid (HBR.out.new hb)
                  replace HB := Lib.hid (below_trans HB.out hb (Nat.le_refl _))
                  clear hb
                  clear hF HND
                  have g2 : ((s2.length : Int) == (ns : Int)) = true := by rw [beq_iff_eq]; omega
                  have g3 : ((B.length : Int) == 6) = true := by rw [beq_iff_eq]; omega
                  have g4 : decide ((s2.length : Int) = (ns : Int)) = true := decide_eq_true (by omega)
                  have g5 : decide ((B.length : Int) = 6) = true := decide_eq_true (by omega)
                  go_wp2_with fail
                  refine Calls.mono (prun_eq l A1 l.length c1 _ _ v A2 v.length c2 _ _ f A3 f.length c3 _ _ x s ESH.out _ (by omega) HR1.out hc1 HU1 (by omega) HR2.out hc2 HU2 (by omega) HR3.out hc3 HU3 WX.out) ?_
                  rintro e w10 ⟨A8, c8, rfl, hF, hb⟩
                  replace HR1 := Lib.hid (HR1.out.new hb)
                  replace HR2 := Lib.hid (HR2.out.new hb)
                  replace HR3 := Lib.hid (HR3.out.new hb)
                  replace HS := Lib.hid (HS.out.new hb)
                  replace HBR := Lib.hid (HBR.out.new hb)
                  replace HB := Lib.hid (below_trans HB.out hb (Nat.le_refl _))
                  clear hb
                  have HS8 := Lib.hid hF.rd
                  clear hF
                  go_wp2_with fail
                  refine Calls.mono (psent_eq s A4 A8 s.length c4 c8 _ _ _ _ _ (by omega) HS.out HS8.out HSO) ?_
                  rintro e w11 ⟨rfl, hb⟩
                  replace HR1 := Lib.hid (HR1.out.new hb)
                  replace HR2 := Lib.hid (HR2.out.new hb)
                  replace HR3 := Lib.hid (HR3.out.new hb)
                  replace HS := Lib.hid (HS.out.new hb)
                  replace HBR := Lib.hid (HBR.out.new hb)
                  replace HB := Lib.hid (below_trans HB.out hb (Nat.le_refl _))
                  clear hb
                  go_wp2_with fail
                  go_ret
                  exact ⟨rfl, HB.out⟩
  · have g : decide ((1048576 : Int) < n0) = true := by simp; omega
    go_enter Try.func4, Try.ntmps4
    go_wp2_with fail
    refine (big_any n0 c0 A0 _ w0).mono ?_
    rintro e w1 ⟨rfl, rfl⟩
    rw [g]
    go_wp2_with fail
    go_ret
    exact ⟨rfl, Below.refl _ _⟩

set_option maxRecDepth 100000 in
theorem lifted (os : Os) (started : os.Started) (H : Type) (enc : TypeId × Value → H) :
    ReturnsInHanded {} Try.checked os 4 .any (Rows.fnProgramsSpec.pre6 enc Try.prog Try.f4 Rows.fnProgramsRow.domain false) (Rows.fnProgramsSpec.post enc Try.prog Try.f4 false true false false) := by
  refine law_lifted Try.func4 (by kernel_rfl) rfl rfl (by kernel_rfl) os started
    (ChangeSpec.witness6 (enc := enc) (C := Try.checked) false ⟨#[], #[.slice none 0 0], []⟩ 8 (by kernel_rfl) (by kernel_rfl) (by kernel_rfl) (by kernel_rfl)) ?_
  intro W base args ds p hval hA hlt
  rw [Try.params4] at hA hval
  obtain ⟨v0, vs0, d0, ds0, p0, q0, hargs, rfl, rfl, h0, r0⟩ := trodAll_cons hA
  obtain ⟨rfl, rfl, rfl⟩ := trodAll_nil r0
  obtain rfl : args = #[v0] := by cases args; simp_all
  obtain ⟨A0, n0, c0, rfl, w0, m0⟩ := open_bytes (hval 0 22 v0 rfl rfl) h0 (fun x hx => hlt x (by simp [hx]))
  exact ⟨⟨rfl, rfl, rfl⟩, walk A0 n0 c0 w0 W m0⟩

set_option maxRecDepth 100000 in
set_option maxHeartbeats 8000000 in
theorem closed : joinedFacts Try.pinned.checked.prog 4 Try.f4 Rows.fnProgramsSpec Rows.fnProgramsRow = true :=
  (and_i (and_i (and_i (and_i (and_i (and_i (and_i (and_i (and_i (and_i (and_i (and_i (and_i (and_i (and_i (and_i (and_i (and_i (and_i (and_i (and_i (and_i (and_i (and_i (and_i (and_i (and_i (and_i (and_i (and_i (and_i (by as_aux_lemma => kernel_rfl) seatLaid) sf_maps) (by as_aux_lemma => kernel_rfl)) (by as_aux_lemma => kernel_rfl)) (by as_aux_lemma => kernel_rfl)) (by as_aux_lemma => kernel_rfl)) (by as_aux_lemma => kernel_rfl)) (by as_aux_lemma => kernel_rfl)) (by as_aux_lemma => kernel_rfl)) (by as_aux_lemma => kernel_rfl)) (by as_aux_lemma => kernel_rfl)) (by as_aux_lemma => kernel_rfl)) (by as_aux_lemma => kernel_rfl)) (by as_aux_lemma => kernel_rfl)) (by as_aux_lemma => kernel_rfl)) (by as_aux_lemma => kernel_rfl)) (by as_aux_lemma => kernel_rfl)) (by as_aux_lemma => kernel_rfl)) (by as_aux_lemma => kernel_rfl)) (by as_aux_lemma => kernel_rfl)) (by as_aux_lemma => kernel_rfl)) sf_plain) (by as_aux_lemma => kernel_rfl)) sf_heard) sf_enter) sf_lifts) sf_make) (by as_aux_lemma => kernel_rfl)) (by as_aux_lemma => kernel_rfl)) (by as_aux_lemma => kernel_rfl)) (by as_aux_lemma => kernel_rfl))

theorem over : Rows.fnProgramsRow.holds Try.pinned (OpenSpec.ofChange Rows.fnProgramsSpec) :=
  OpenClaim.holds_of_wide 4 Try.f4 rfl rfl rfl rfl rfl rfl rfl ⟨rfl, rfl, rfl, rfl, rfl⟩ rfl rfl rfl rfl rfl (by kernel_rfl) Try.func4 closed
    (of_decide_eq_true (by kernel_rfl)) (by unfold Func.isWrapper; first | (rw [if_pos (by decide +kernel)]; kernel_rfl) | (rw [if_neg (by decide +kernel)]; exact ⟨rfl, rfl⟩))
    (fun os started H enc _ => lifted os started H enc)

theorem proved : Rows.FnProgramsSaid := over
#print axioms proved
end Go.Proofs.Ytcankpiidjhhpaa.fnPrograms
