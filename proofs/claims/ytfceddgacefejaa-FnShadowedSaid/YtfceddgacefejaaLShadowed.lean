/- The law FnShadowed answers true for every argument, and leaves each argument as it was. No condition. -/
import Derived.Test.YtfceddgacefejaaFrame
import Derived.Test.YtfceddgacefejaaFactsK
import Derived.Test.YtfceddgacefejaaShM
import Derived.Test.YtfceddgacefejaaDrX
import Derived.Deep.DeepCutAuto
namespace Go.Proofs.Ytfceddgacefejaa.fnShadowed
open Go Go.ChangeShapes Go.WideShapes Go.ChangeAt Go.RowKit Go.Lib
open Go.ChangeMaps (open_string)
set_option linter.unusedVariables false
set_option linter.unusedSimpArgs false
set_option maxRecDepth 100000
set_option maxHeartbeats 32000000 in

theorem walk (A0 : Option Addr) (n0 c0 : Nat) (w0 : n0 ≤ maxLen) (w : World) (m0 : BytesAt w w.heap.size A0 n0) :
    Calls Try.prog 5 #[.slice A0 n0 c0] w fun e w' => e = .returned (.bool true) ∧ Below w.heap.size w w' := by
  have hn0 : n0 ≤ 9223372036854775807 := w0
  by_cases h : n0 ≤ 1048576
  · skip
    have g : decide ((1048576 : Int) < n0) = false := by simp; omega
    have M0 := Lib.hid m0
    clear m0
    go_enter Try.func5, Try.ntmps5
    go_wp2_with fail
    refine (big_any n0 c0 A0 _ w0).mono ?_
    rintro e w1 ⟨rfl, rfl⟩
    rw [g]
    have HB := Lib.hid (Below.refl w.heap.size w)
    go_wp2_with fail
    refine Calls.mono (drawDE_any n0 c0 A0 _ (by omega) (bytes_below M0.out HB.out)) ?_
    rintro e w2 ⟨A1, c1, l, q, rfl, hl, hu, hq, hr, hb⟩
    replace HB := Lib.hid (below_trans HB.out hb (Nat.le_refl _))
    clear hb
    have hsz1 : w.heap.size ≤ w2.heap.size := HB.out.size
    have HU := Lib.hid (show cRuleOk l from hu)
    have HSF := Lib.hid hq
    obtain ⟨hi1, hh1⟩ : ∃ z, z = w2.heap.size := ⟨_, rfl⟩
    have HR := Lib.hid (show Rd w2 w.heap.size hi1 8 A1 l.length (cRule l) by rw [hh1]; exact hr)
    have hh1' : hi1 ≤ w2.heap.size := by omega
    clear hh1 hu hr hq M0
    have KQ := Lib.hid (show BoxAt (World.alloc w2 (.cells #[.int .i64 0, .int .i64 0, .int .i64 0] 57)) w2.heap.size 57 #[.int .i64 0, .int .i64 0, .int .i64 0] from by simpa using box_new w2 57 #[.int .i64 0, .int .i64 0, .int .i64 0])
    replace HR := Lib.hid (HR.out.alloc (.cells #[.int .i64 0, .int .i64 0, .int .i64 0] 57))
    replace HB := Lib.hid (HB.out.alloc (by have := HB.out.size; (try simp at this ⊢); omega) (.cells #[.int .i64 0, .int .i64 0, .int .i64 0] 57))
    obtain ⟨w3, hx⟩ : ∃ X, X = World.setRow (World.alloc w2 (.cells #[.int .i64 0, .int .i64 0, .int .i64 0] 57)) w2.heap.size #[.int .i64 q.f0, .int .i64 q.f1, .int .i64 q.f2] := ⟨_, rfl⟩
    have HX3 := Lib.hid hx
    have OLD3 := KQ
    replace KQ := Lib.hid (show BoxAt w3 w2.heap.size 57 #[.int .i64 q.f0, .int .i64 q.f1, .int .i64 q.f2] by rw [hx]; exact box_row KQ.out)
    replace HR := Lib.hid (show Rd w3 w.heap.size hi1 8 A1 l.length (cRule l) by rw [hx]; exact HR.out.keep fun b _ hb1 _ => setRow_other _ _ b _ (by omega))
    replace HB := Lib.hid (show Below w.heap.size w w3 by rw [hx]; exact below_setRow HB.out (by omega) _)
    clear hx
    have lKQ : w2.heap.size < w3.heap.size := KQ.out.lt
    go_wp2_with (refine wpList_store_row rfl 57 _ _ rfl w2.heap.size #[.int .i64 q.f0, .int .i64 q.f1, .int .i64 q.f2] rfl rfl 57 _ OLD3.out (by kernel_rfl) (by kernel_rfl) (by kernel_rfl) ?_; rw [← HX3.out]; clear HX3 OLD3)
    refine Calls.mono (impl_ShadowedRules l A1 l.length c1 _ _ _ (by omega) HR.out HU) ?_
    rintro e w4 ⟨A2, c2, rfl, hF, hb⟩
    replace KQ := Lib.hid (KQ.out.new hb)
    replace HR := Lib.hid (HR.out.new hb)
    replace HB := Lib.hid (below_trans HB.out hb (Nat.le_refl _))
    clear hb
    have lKQ : w2.heap.size < w4.heap.size := KQ.out.lt
    have HZ := Lib.hid hF.rd
    clear hF
    have hnot := shr_decide l q
    have hsub := Lib.hid (shr_sub l)
    have hmem := Lib.hid (shr_mem l)
    have hsl := mShR_len l
    obtain ⟨d, hd⟩ : ∃ d, mDecide l q = d := ⟨_, rfl⟩
    rw [hd] at hnot
    have hnd : decide (d ∈ mShR l) = false := decide_eq_false hnot
    generalize mShR l = S at HZ hsub hmem hsl hnd ⊢
    clear hnot
    have gnd : (d != d) = false := by simp
    obtain ⟨lo2, hi2, HS⟩ : ∃ lo hi, Hid (Rd w4 lo hi 1 A2 S.length (i64s S)) := ⟨_, _, HZ⟩
    clear HZ
    go_upto_region 5 with fail
    try simp only [Act.put]
    refine wp_region_held_drew (S := fun w' => BoxAt w' w2.heap.size 57 #[.int .i64 q.f0, .int .i64 q.f1, .int .i64 q.f2] ∧ Below w4.heap.size w4 w') (by kernel_rfl) ?_ (fun hHeld => ?_)
    · exact ⟨KQ.out.drw, (Below.refl _ _).drew⟩
    refine wpAnyH_take (i := 0) (oi := ⟨some 18, _, _, _, _, _⟩) (v := ?_) rfl (by kernel_rfl) (by kernel_rfl) (by kernel_rfl) (fun _ _ _ h => h) (Or.inl ⟨by kernel_rfl, ?_⟩) hHeld ?_
    rotate_left
    focus (intro W hS; skip; clear hS; first | (go_simp; done) | (go_simp; with_reducible rfl))
    try simp only [Act.put, List.setIfInBounds_toArray, List.set_cons_zero, List.set_cons_succ]
    refine wpAnyH_take (i := 1) (oi := ⟨some 19, _, _, _, _, _⟩) (v := ?_) rfl (by kernel_rfl) (by kernel_rfl) (by kernel_rfl) (fun _ _ _ h => h) (Or.inl ⟨by kernel_rfl, ?_⟩) hHeld ?_
    rotate_left
    focus (intro W hS; have c0_0 := (hS.1).at_ (j := 0) rfl; have c0_1 := (hS.1).at_ (j := 1) rfl; have c0_2 := (hS.1).at_ (j := 2) rfl; clear hS; first | (go_simp; done) | (go_simp; with_reducible rfl))
    try simp only [Act.put, List.setIfInBounds_toArray, List.set_cons_zero, List.set_cons_succ]
    refine wpAnyH_take (i := 3) (oi := ⟨some 21, _, _, _, _, _⟩) (v := ?_) rfl (by kernel_rfl) (by kernel_rfl) (by kernel_rfl) (fun _ _ _ h => h) (Or.inl ⟨by kernel_rfl, ?_⟩) hHeld ?_
    rotate_left
    focus (intro W hS; skip; clear hS; first | (go_simp; done) | (go_simp; with_reducible rfl))
    try simp only [Act.put, List.setIfInBounds_toArray, List.set_cons_zero, List.set_cons_succ]
    refine wpAnyH_take (i := 4) (oi := ⟨some 22, _, _, _, _, _⟩) (v := ?_) rfl (by kernel_rfl) (by kernel_rfl) (by kernel_rfl) (fun _ _ _ h => h) (Or.inl ⟨by kernel_rfl, ?_⟩) hHeld ?_
    rotate_left
    focus (intro W hS; have c0_0 := (hS.1).at_ (j := 0) rfl; have c0_1 := (hS.1).at_ (j := 1) rfl; have c0_2 := (hS.1).at_ (j := 2) rfl; clear hS; first | (go_simp; done) | (go_simp; with_reducible rfl))
    try simp only [Act.put, List.setIfInBounds_toArray, List.set_cons_zero, List.set_cons_succ]
    refine wpAnyH_ready (rs := [2]) (by kernel_rfl) (by simp) ?_
    refine AllReadyH.cons (o := ⟨some 20, _, _, _, _, _⟩) rfl (fun K hK => ?_) AllReadyH.nil
    go_simp
    refine Calls.mono (sdec_eq l A1 l.length c1 _ _ q _ hd _ (by omega) (HR.out.new hHeld.2) HU) ?_
    rintro e x1 ⟨rfl, hb1⟩
    refine hK.out _ _ ⟨hHeld.1.new hb1, below_trans hHeld.2 hb1 (Nat.le_refl _)⟩ (fun hHeld' => ?_)
    clear hK K hHeld hb1
    have hHeld := hHeld'
    clear hHeld'
    try simp only [Act.put, List.setIfInBounds_toArray, List.set_cons_zero, List.set_cons_succ]
    refine wpAnyH_ready (rs := [5]) (by kernel_rfl) (by simp) ?_
    refine AllReadyH.cons (o := ⟨some 23, _, _, _, _, _⟩) rfl (fun K hK => ?_) AllReadyH.nil
    go_simp
    refine Calls.mono (sdes_eq l A1 l.length c1 _ _ q _ hd _ (by omega) (HR.out.new hHeld.2) HU) ?_
    rintro e x2 ⟨rfl, hb1⟩
    refine hK.out _ _ ⟨hHeld.1.new hb1, below_trans hHeld.2 hb1 (Nat.le_refl _)⟩ (fun hHeld' => ?_)
    clear hK K hHeld hb1
    have hHeld := hHeld'
    clear hHeld'
    try simp only [Act.put, List.setIfInBounds_toArray, List.set_cons_zero, List.set_cons_succ]
    refine wpAnyH_take (i := 6) (oi := ⟨some 24, _, _, _, _, _⟩) (v := ?_) rfl (by kernel_rfl) (by kernel_rfl) (by kernel_rfl) (fun _ _ _ h => h) (Or.inl ⟨by kernel_rfl, ?_⟩) hHeld ?_
    rotate_left
    focus (intro W hS; skip; clear hS; first | (go_simp; done) | (go_simp; with_reducible rfl))
    try simp only [Act.put, List.setIfInBounds_toArray, List.set_cons_zero, List.set_cons_succ]
    refine wpAnyH_done (by kernel_rfl) ?_ _
    have HH := hHeld
    clear hHeld
    replace KQ := Lib.hid HH.1
    replace HR := Lib.hid (HR.out.new HH.2)
    replace HS := Lib.hid (HS.out.new HH.2)
    replace HB := Lib.hid (below_trans HB.out HH.2 (Nat.le_refl _))
    clear HH
    have lKQ2 := KQ.out.lt
    have kKQ0 := KQ.out.at_ (j := 0) rfl
    have kKQ1 := KQ.out.at_ (j := 1) rfl
    have kKQ2 := KQ.out.at_ (j := 2) rfl
    go_wp2_with fail
    clear kKQ0 kKQ1 kKQ2
    refine Calls.mono (sdec_eq l A1 l.length c1 _ _ q _ hd _ (by omega) HR.out HU) ?_
    rintro e w5 ⟨rfl, hb⟩
    replace KQ := Lib.hid (KQ.out.new hb)
    replace HR := Lib.hid (HR.out.new hb)
    replace HS := Lib.hid (HS.out.new hb)
    replace HB := Lib.hid (below_trans HB.out hb (Nat.le_refl _))
    clear hb
    have lKQ : w2.heap.size < w5.heap.size := KQ.out.lt
    go_wp2_with fail
    refine Calls.mono (scon_eq S A2 S.length c2 _ _ d _ hnd _ (by omega) HS.out) ?_
    rintro e w6 ⟨rfl, hb⟩
    replace KQ := Lib.hid (KQ.out.new hb)
    replace HR := Lib.hid (HR.out.new hb)
    replace HS := Lib.hid (HS.out.new hb)
    replace HB := Lib.hid (below_trans HB.out hb (Nat.le_refl _))
    clear hb
    have lKQ : w2.heap.size < w6.heap.size := KQ.out.lt
    go_wp2_with fail
    refine Calls.mono (impl_NeverChosen l A1 l.length c1 _ _ _ (by omega) HR.out HU) ?_
    rintro e w7 ⟨A3, c3, rfl, hF, hb⟩
    replace KQ := Lib.hid (KQ.out.new hb)
    replace HR := Lib.hid (HR.out.new hb)
    replace HS := Lib.hid (HS.out.new hb)
    replace HB := Lib.hid (below_trans HB.out hb (Nat.le_refl _))
    clear hb
    have lKQ : w2.heap.size < w7.heap.size := KQ.out.lt
    have HN := Lib.hid hF.rd
    clear hF
    have hnl := mNC_len l
    generalize mNC l = N at HN hsub hnl ⊢
    go_wp2_with fail
    refine Calls.mono (swit_eq S N A2 A3 S.length c2 N.length c3 _ _ _ _ _ (by omega) (by omega) HS.out HN.out hsub.out) ?_
    rintro e w8 ⟨rfl, hb⟩
    replace KQ := Lib.hid (KQ.out.new hb)
    replace HR := Lib.hid (HR.out.new hb)
    replace HS := Lib.hid (HS.out.new hb)
    replace HB := Lib.hid (below_trans HB.out hb (Nat.le_refl _))
    clear hb
    have lKQ : w2.heap.size < w8.heap.size := KQ.out.lt
    clear HN hsub hnl hnd
    go_wp2_with fail
    go_loopg [6] l.length (fun gg i wr => ∃ k : Nat, k ≤ l.length ∧ l.length - k ≤ gg ∧ i = .int .i64 k ∧ Hid (BoxAt wr w2.heap.size 57 #[.int .i64 q.f0, .int .i64 q.f1, .int .i64 q.f2]) ∧ Hid (Rd wr w.heap.size hi1 8 A1 l.length (cRule l)) ∧ Hid (Rd wr lo2 hi2 1 A2 S.length (i64s S)) ∧ Hid (Below w.heap.size w wr))
    case atStart => exact ⟨0, Nat.zero_le _, by omega, rfl, KQ, HR, HS, HB⟩
    case round =>
      clear KQ HR HS HB lKQ lKQ2
      obtain ⟨k, hk, hg, rfl, KQ, HR, HS, HB⟩ := hrel
      have lKQ : w2.heap.size < wr.heap.size := KQ.out.lt
      have hszr : w.heap.size ≤ wr.heap.size := HB.out.size
      by_cases hlt : k < l.length
      · skip
        obtain ⟨v, EV⟩ : ∃ v, mISd l (k : Int) = v := ⟨_, rfl⟩
        have EC := (hmem.out (k : Int)).trans EV
        have gv : (v != v) = false := by simp
        go_wp2_with fail
        refine Calls.mono (scon_eq S A2 S.length c2 _ _ (k : Int) _ EC _ (by omega) HS.out) ?_
        rintro e w9 ⟨rfl, hb⟩
        replace KQ := Lib.hid (KQ.out.new hb)
        replace HR := Lib.hid (HR.out.new hb)
        replace HS := Lib.hid (HS.out.new hb)
        replace HB := Lib.hid (below_trans HB.out hb (Nat.le_refl _))
        clear hb
        have lKQ : w2.heap.size < w9.heap.size := KQ.out.lt
        go_wp2_with fail
        refine Calls.mono (sshd_eq l A1 l.length c1 _ _ (k : Int) _ EV _ (by omega) HR.out HU) ?_
        rintro e w10 ⟨rfl, hb⟩
        replace KQ := Lib.hid (KQ.out.new hb)
        replace HR := Lib.hid (HR.out.new hb)
        replace HS := Lib.hid (HS.out.new hb)
        replace HB := Lib.hid (below_trans HB.out hb (Nat.le_refl _))
        clear hb
        have lKQ : w2.heap.size < w10.heap.size := KQ.out.lt
        go_wp2_with fail
        go_roundg (l.length - (k + 1))
        case measure => omega
        case rel => exact ⟨k + 1, by omega, by omega, by go_num, KQ, HR, HS, HB⟩
      · obtain rfl : k = l.length := by omega
        clear HS hmem
        have kKQ0 := KQ.out.at_ (j := 0) rfl
        have kKQ1 := KQ.out.at_ (j := 1) rfl
        have kKQ2 := KQ.out.at_ (j := 2) rfl
        go_wp2_with fail
        clear kKQ0 kKQ1 kKQ2
        refine Calls.mono (impl_AppliesTo l A1 l.length c1 _ _ q _ (by omega) HR.out HU) ?_
        rintro e w9 ⟨A5, c5, rfl, hF, hb⟩
        replace KQ := Lib.hid (KQ.out.new hb)
        replace HR := Lib.hid (HR.out.new hb)
        replace HB := Lib.hid (below_trans HB.out hb (Nat.le_refl _))
        clear hb
        have lKQ : w2.heap.size < w9.heap.size := KQ.out.lt
        clear hF
        obtain ⟨v, EV⟩ : ∃ v, mClash l q = v := ⟨_, rfl⟩
        have hv1 : v = true → 2 ≤ (mTo l q).length := fun e => clash_two (EV.trans e)
        have hv2 : v = true → 0 < mCC l q.f0 := fun e => clash_count (EV.trans e)
        have hcl := mCC_le l q.f0
        have htl := mTo_len l q
        obtain ⟨cc, ECC⟩ : ∃ c, mCC l q.f0 = c := ⟨_, rfl⟩
        rw [ECC] at hv2 hcl
        generalize (mTo l q).length = tl at hv1 htl ⊢
        have gcc : decide ((cc : Int) ≤ 40) = true := decide_eq_true (by omega)
        have kKQ0 := KQ.out.at_ (j := 0) rfl
        have kKQ1 := KQ.out.at_ (j := 1) rfl
        have kKQ2 := KQ.out.at_ (j := 2) rfl
        go_wp2_with fail
        clear kKQ0 kKQ1 kKQ2
        refine Calls.mono (sclash_eq l A1 l.length c1 _ _ q _ EV _ (by omega) HR.out HU) ?_
        rintro e w10 ⟨rfl, hb⟩
        replace KQ := Lib.hid (KQ.out.new hb)
        replace HR := Lib.hid (HR.out.new hb)
        replace HB := Lib.hid (below_trans HB.out hb (Nat.le_refl _))
        clear hb
        have lKQ : w2.heap.size < w10.heap.size := KQ.out.lt
        cases v with
        | false =>
          clear hv1 hv2
          have kKQ0 := KQ.out.at_ (j := 0) rfl
          have kKQ1 := KQ.out.at_ (j := 1) rfl
          have kKQ2 := KQ.out.at_ (j := 2) rfl
          go_wp2_with fail
          clear kKQ0 kKQ1 kKQ2
          refine Calls.mono (scc_eq l A1 l.length c1 _ _ q.f0 _ ECC _ (by omega) HR.out HU) ?_
          rintro e w11 ⟨rfl, hb⟩
          replace KQ := Lib.hid (KQ.out.new hb)
          replace HR := Lib.hid (HR.out.new hb)
          replace HB := Lib.hid (below_trans HB.out hb (Nat.le_refl _))
          clear hb
          have lKQ : w2.heap.size < w11.heap.size := KQ.out.lt
          go_wp2_with fail
          go_ret
          exact ⟨by first | rfl | simp [gcc], HB.out⟩
        | true =>
          have k1 := hv1 rfl
          have k2 := hv2 rfl
          clear hv1 hv2
          have g1 : decide ((tl : Int) < 2) = false := decide_eq_false (by omega)
          have g2 : ((cc : Int) == 0) = false := by simp; omega
          have g3 : decide ((cc : Int) = 0) = false := by simp; omega
          have kKQ0 := KQ.out.at_ (j := 0) rfl
          have kKQ1 := KQ.out.at_ (j := 1) rfl
          have kKQ2 := KQ.out.at_ (j := 2) rfl
          go_wp2_with fail
          clear kKQ0 kKQ1 kKQ2
          refine Calls.mono (scc_eq l A1 l.length c1 _ _ q.f0 _ ECC _ (by omega) HR.out HU) ?_
          rintro e w11 ⟨rfl, hb⟩
          replace KQ := Lib.hid (KQ.out.new hb)
          replace HR := Lib.hid (HR.out.new hb)
          replace HB := Lib.hid (below_trans HB.out hb (Nat.le_refl _))
          clear hb
          have lKQ : w2.heap.size < w11.heap.size := KQ.out.lt
          have kKQ0 := KQ.out.at_ (j := 0) rfl
          have kKQ1 := KQ.out.at_ (j := 1) rfl
          have kKQ2 := KQ.out.at_ (j := 2) rfl
          go_wp2_with fail
          clear kKQ0 kKQ1 kKQ2
          refine Calls.mono (scc_eq l A1 l.length c1 _ _ q.f0 _ ECC _ (by omega) HR.out HU) ?_
          rintro e w12 ⟨rfl, hb⟩
          replace KQ := Lib.hid (KQ.out.new hb)
          replace HR := Lib.hid (HR.out.new hb)
          replace HB := Lib.hid (below_trans HB.out hb (Nat.le_refl _))
          clear hb
          have lKQ : w2.heap.size < w12.heap.size := KQ.out.lt
          go_wp2_with fail
          go_ret
          exact ⟨by first | rfl | simp [gcc], HB.out⟩
  · have g : decide ((1048576 : Int) < n0) = true := by simp; omega
    go_enter Try.func5, Try.ntmps5
    go_wp2_with fail
    refine (big_any n0 c0 A0 _ w0).mono ?_
    rintro e w1 ⟨rfl, rfl⟩
    rw [g]
    go_wp2_with fail
    go_ret
    exact ⟨rfl, Below.refl _ _⟩

set_option maxRecDepth 100000 in
theorem lifted (os : Os) (started : os.Started) (H : Type) (enc : TypeId × Value → H) :
    ReturnsInHanded {} Try.checked os 5 .any (Rows.fnShadowedSpec.pre6 enc Try.prog Try.f5 Rows.fnShadowedRow.domain false) (Rows.fnShadowedSpec.post enc Try.prog Try.f5 false true false false) := by
  refine law_lifted Try.func5 (by kernel_rfl) rfl rfl (by kernel_rfl) os started
    (ChangeSpec.witness6 (enc := enc) (C := Try.checked) false ⟨#[], #[.slice none 0 0], []⟩ 8 (by kernel_rfl) (by kernel_rfl) (by kernel_rfl) (by kernel_rfl)) ?_
  intro W base args ds p hval hA hlt
  rw [Try.params5] at hA hval
  obtain ⟨v0, vs0, d0, ds0, p0, q0, hargs, rfl, rfl, h0, r0⟩ := trodAll_cons hA
  obtain ⟨rfl, rfl, rfl⟩ := trodAll_nil r0
  obtain rfl : args = #[v0] := by cases args; simp_all
  obtain ⟨A0, n0, c0, rfl, w0, m0⟩ := open_bytes (hval 0 22 v0 rfl rfl) h0 (fun x hx => hlt x (by simp [hx]))
  exact ⟨⟨rfl, rfl, rfl⟩, walk A0 n0 c0 w0 W m0⟩

set_option maxRecDepth 100000 in
set_option maxHeartbeats 8000000 in
theorem closed : joinedFacts Try.pinned.checked.prog 5 Try.f5 Rows.fnShadowedSpec Rows.fnShadowedRow = true :=
  (and_i (and_i (and_i (and_i (and_i (and_i (and_i (and_i (and_i (and_i (and_i (and_i (and_i (and_i (and_i (and_i (and_i (and_i (and_i (and_i (and_i (and_i (and_i (and_i (and_i (and_i (and_i (and_i (and_i (and_i (and_i (by as_aux_lemma => kernel_rfl) seatLaid) sf_maps) (by as_aux_lemma => kernel_rfl)) (by as_aux_lemma => kernel_rfl)) (by as_aux_lemma => kernel_rfl)) (by as_aux_lemma => kernel_rfl)) (by as_aux_lemma => kernel_rfl)) (by as_aux_lemma => kernel_rfl)) (by as_aux_lemma => kernel_rfl)) (by as_aux_lemma => kernel_rfl)) (by as_aux_lemma => kernel_rfl)) (by as_aux_lemma => kernel_rfl)) (by as_aux_lemma => kernel_rfl)) (by as_aux_lemma => kernel_rfl)) (by as_aux_lemma => kernel_rfl)) (by as_aux_lemma => kernel_rfl)) (by as_aux_lemma => kernel_rfl)) (by as_aux_lemma => kernel_rfl)) (by as_aux_lemma => kernel_rfl)) (by as_aux_lemma => kernel_rfl)) (by as_aux_lemma => kernel_rfl)) sf_plain) (by as_aux_lemma => kernel_rfl)) sf_heard) sf_enter) sf_lifts) sf_make) (by as_aux_lemma => kernel_rfl)) (by as_aux_lemma => kernel_rfl)) (by as_aux_lemma => kernel_rfl)) (by as_aux_lemma => kernel_rfl))

theorem over : Rows.fnShadowedRow.holds Try.pinned (OpenSpec.ofChange Rows.fnShadowedSpec) :=
  OpenClaim.holds_of_wide 5 Try.f5 rfl rfl rfl rfl rfl rfl rfl ⟨rfl, rfl, rfl, rfl, rfl⟩ rfl rfl rfl rfl rfl (by kernel_rfl) Try.func5 closed
    (of_decide_eq_true (by kernel_rfl)) (by unfold Func.isWrapper; first | (rw [if_pos (by decide +kernel)]; kernel_rfl) | (rw [if_neg (by decide +kernel)]; exact ⟨rfl, rfl⟩))
    (fun os started H enc _ => lifted os started H enc)

theorem proved : Rows.FnShadowedSaid := over
#print axioms proved
end Go.Proofs.Ytfceddgacefejaa.fnShadowed
