/- spec.LendTo, its answer a list of its own. No condition. -/
import Derived.Test.YtfceddgacefejaaLTo
import Derived.Test.YtfceddgacefejaaDrw
namespace Go.Proofs.Ytfceddgacefejaa
open Go Go.ChangeShapes Go.WideShapes Go.ChangeAt Go.RowKit Go.Lib
set_option linter.unusedVariables false
set_option linter.unusedSimpArgs false
set_option maxRecDepth 100000
set_option maxHeartbeats 16000000 in
theorem spec_LendToO (l : List TGrant) (A : Option Addr) (n c lo hi : Nat) (a1 : Int) (a2 : TSite) (a3 : Int) (w : World) (h0 : n ≤ 1048576) (hr : Rd w lo hi 7 A n (cGrant l)) (b0 : Hid (cGrantOk l)) :
    Calls Try.prog 211 #[.slice A n c, .int .i64 a1, vSite a2, .int .i64 a3] w (fun e w' => ∃ v, e = .returned (.tuple #[v, .bool (mLTk l a1 a2 a3)]) ∧ w'.ownsRow w.heap.size 35 7 v (mLT l a1 a2 a3).length (cGrant (mLT l a1 a2 a3)) ∧ Below w.heap.size w w') := by
  have HL := Lib.hid (rd_len TGrant.len hr (by decide))
  have HR := Lib.hid hr
  clear hr
  have HXl := Lib.hid (mLend_len a1 a2 a3)
  have HB0 := Lib.hid (show Below w.heap.size w (w.alloc (.cells #[.int .i64 a2.f0, .int .i64 a2.f1] 27)) from (Below.refl _ _).alloc (Nat.le_refl _) _)
  have HLg := Lib.hid (spec_LendGrants a1 a2 a3 (w.alloc (.cells #[.int .i64 a2.f0, .int .i64 a2.f1] 27)))
  unfold mLT mLTk
  generalize mLend a1 a2 a3 = X at HXl HLg ⊢
  go_enter Try.func211, Try.ntmps211
  go_wp2_with fail
  refine HLg.out.mono ?_
  rintro e w1 ⟨A1, c1, rfl, hf1, hb1⟩
  have HB1 := Lib.hid (below_trans HB0.out hb1 (by simp <;> omega))
  have HRX := Lib.hid hf1.rd
  have HR1 := Lib.hid (HR.out.new HB1.out)
  have hx2 : X.length ≤ 2 := HXl.out
  clear hb1 hf1 HLg HB0
  have HOz := Lib.hid (show (w1.alloc (.cells #[] 35)).ownsRow w1.heap.size 35 7 (.slice (some ⟨w1.heap.size, 0, none⟩) 0 0) 0 ([] : List Value) from World.ownsRow_lit w1 #[] 0 (Nat.le_refl _) (by unfold maxLen; omega) rfl)
  go_wp2_with (at_builtin; refine wp_app rfl _ _ _ rfl w1.heap.size 35 (.agg #[.int .i64 0, .int .i64 0, .int .i64 0, .int .i64 0, .int .i64 0, .int .i64 0, .bool false]) 7 56 Try.underlying24 infoGrant rfl (by decide) _ _ _ rfl HOz.out lo hi A n c (cGrant l) rfl (HR1.out.alloc _) (ocGrant l) (by unfold maxLen; omega) (by omega) (by simp) ?_; intro v1 w2 ho2 hb2 _ _)
  have HO2 := Lib.hid (show w2.ownsRow w1.heap.size 35 7 v1 (n + ((X.take 0).filter fun x => !(l.any fun y => decide (x = y))).length) (cGrant l ++ cGrant ((X.take 0).filter fun x => !(l.any fun y => decide (x = y)))) by simpa [cGrant] using ho2)
  have HB2 := Lib.hid (((Below.refl w1.heap.size w1).alloc (Nat.le_refl _) _).trans hb2)
  clear ho2 hb2 HOz
  go_wp2_with fail
  go_loopg [11, 12] X.length (fun gg v i wr => ∃ k : Nat, k ≤ X.length ∧ X.length - k ≤ gg ∧ i = .int .i64 k ∧ Hid (wr.ownsRow w1.heap.size 35 7 v (n + ((X.take k).filter fun x => !(l.any fun y => decide (x = y))).length) (cGrant l ++ cGrant ((X.take k).filter fun x => !(l.any fun y => decide (x = y))))) ∧ Hid (Below w1.heap.size w1 wr))
  case atStart => exact ⟨0, Nat.zero_le _, by omega, rfl, HO2, HB2⟩
  case round =>
    obtain ⟨wo, rfl⟩ : ∃ wo : World, wo = wr := ⟨_, rfl⟩
    obtain ⟨k, hk, hg, rfl, HO, HB⟩ := hrel
    clear HO2 HB2
    by_cases hlt : k < X.length
    · obtain ⟨bx, offx, x, rfl, _, _, hzx, hcx⟩ := rd_elem TGrant.len (HRX.out.new HB.out) rfl hlt
      have x0 : wo.cell? ⟨bx, offx + k * 7, none⟩ = _ := hcx 0 _ rfl
      have x1 := hcx 1 _ rfl
      have x2 := hcx 2 _ rfl
      have x3 := hcx 3 _ rfl
      have x4 := hcx 4 _ rfl
      have x5 := hcx 5 _ rfl
      have x6 := hcx 6 _ rfl
      have HP := Lib.hid (filter_sn (fun x => !(l.any fun y => decide (x = y))) hzx)
      have HN := Lib.hid (Nat.le_trans (List.length_filter_le (fun x => !(l.any fun y => decide (x = y))) (X.take k)) (List.length_take_le _ _))
      have HRr := Lib.hid (HR1.out.new HB.out)
      clear hzx hcx
      go_wp2_with fail
      go_loopg [13, 14] n (fun g2 th j wj => ∃ m : Nat, m ≤ n ∧ n - m ≤ g2 ∧ j = .int .i64 m ∧ th = .bool ((l.take m).any fun y => decide (x = y)) ∧ Hid (Below wo.heap.size wo wj))
      case atStart => exact ⟨0, Nat.zero_le _, by omega, rfl, by simp, Lib.hid (Below.refl _ _)⟩
      case round =>
        obtain ⟨m, hm, hgm, rfl, rfl, HBm⟩ := hrel
        by_cases hlm : m < n
        · obtain ⟨b, off, y, hAA, _, _, hz, hc⟩ := rd_elem TGrant.len (HRr.out.new HBm.out) HL.out hlm
          cases hAA
          have c0 : wr.cell? ⟨b, off + m * 7, none⟩ = _ := hc 0 _ rfl
          have c1 := hc 1 _ rfl
          have c2 := hc 2 _ rfl
          have c3 := hc 3 _ rfl
          have c4 := hc 4 _ rfl
          have c5 := hc 5 _ rfl
          have c6 := hc 6 _ rfl
          have y0 := cell_nw HBm.out x0
          have y1 := cell_nw HBm.out x1
          have y2 := cell_nw HBm.out x2
          have y3 := cell_nw HBm.out x3
          have y4 := cell_nw HBm.out x4
          have y5 := cell_nw HBm.out x5
          have y6 := cell_nw HBm.out x6
          have HZ := Lib.hid hz
          clear hz hc
          cases hq : (l.take m).any (fun y => decide (x = y)) with
          | true =>
            have HE := Lib.hid (any_more hq HZ.out)
            clear hq
            go_wp2_with fail
            go_quiet (fail)
            go_wp2_with fail
            go_roundg (n - (m + 1))
            case measure => omega
            case rel => exact ⟨m + 1, by omega, by omega, by go_num, by rw [HE.out], Lib.hid (below_dN HBm.out _)⟩
          | false =>
            by_cases e : y = x
            · have g1 : ∀ w, _ := fun w => (eql_Grant y x w).trans (by rw [decide_eq_true e])
              have HE := Lib.hid (show ((l.take (m + 1)).any fun y => decide (x = y)) = true by rw [List.take_add_one, HZ.out, List.any_append]; simp [e])
              clear hq e
              go_wp2_with fail
              go_quiet (fail)
              go_wp2_with fail
              go_roundg (n - (m + 1))
              case measure => omega
              case rel => exact ⟨m + 1, by omega, by omega, by go_num, by rw [HE.out], Lib.hid (below_dN HBm.out _)⟩
            · have g1 : ∀ w, _ := fun w => (eql_Grant y x w).trans (by rw [decide_eq_false e])
              have HE := Lib.hid (any_step hq HZ.out (by simp; exact fun h => e h.symm))
              clear hq e
              go_wp2_with fail
              go_quiet (fail)
              go_wp2_with fail
              go_roundg (n - (m + 1))
              case measure => omega
              case rel => exact ⟨m + 1, by omega, by omega, by go_num, by rw [HE.out], Lib.hid (below_dN HBm.out _)⟩
        · obtain rfl : m = n := by omega
          have HFl := Lib.hid (show ((l.take m).any fun y => decide (x = y)) = (l.any fun y => decide (x = y)) by rw [List.take_of_length_le (by rw [HL.out]; omega)])
          rw [HFl.out]
          have HBj := Lib.hid (below_trans HB.out HBm.out (Nat.le_refl _))
          have HOj := Lib.hid (own_newer HO.out HBm.out)
          clear HO HB HRr
          have y0 := cell_nw HBm.out x0
          have y1 := cell_nw HBm.out x1
          have y2 := cell_nw HBm.out x2
          have y3 := cell_nw HBm.out x3
          have y4 := cell_nw HBm.out x4
          have y5 := cell_nw HBm.out x5
          have y6 := cell_nw HBm.out x6
          cases hq : l.any (fun y => decide (x = y)) with
          | true =>
            have HE := Lib.hid (HP.out.trans (if_neg (by rw [hq]; decide)))
            clear hq
            go_wp2_with fail
            go_roundg (X.length - (k + 1))
            case measure => omega
            case rel => exact ⟨k + 1, by omega, by omega, by go_num, by rw [HE.out]; exact HOj, HBj⟩
          | false =>
            have HE := Lib.hid (HP.out.trans (if_pos (by rw [hq]; rfl)))
            clear hq
            have HS := Lib.hid HBj.out.size
            go_wp2_with (at_builtin; refine wp_app_lit rfl _ _ _ rfl w1.heap.size 35 (.agg #[.int .i64 0, .int .i64 0, .int .i64 0, .int .i64 0, .int .i64 0, .int .i64 0, .bool false]) 7 56 Try.underlying24 infoGrant rfl (by decide) _ _ _ rfl HOj.out #[.int .i64 x.f0, .int .i64 x.f1, .int .i64 x.f2, .int .i64 x.f3, .int .i64 x.f4, .int .i64 x.f5, .bool x.f6] 1 1 _ rfl (by simp) rfl (onesGrant x) (by have := HN.out; unfold maxLen; omega) (by have := HN.out; omega) (by have := HS.out; omega) ?_; intro v1 w5 ho5 hb5)
            have HO5 := Lib.hid (show w5.ownsRow w1.heap.size 35 7 v1 (m + ((X.take (k + 1)).filter fun x => !(l.any fun y => decide (x = y))).length) (cGrant l ++ cGrant ((X.take (k + 1)).filter fun x => !(l.any fun y => decide (x = y)))) by
              rw [HE.out]
              simpa [cGrant, TGrant.cells, List.flatMap_append, Nat.add_assoc] using ho5)
            have HB5 := Lib.hid (HBj.out.trans hb5)
            clear ho5 hb5
            go_wp2_with fail
            go_roundg (X.length - (k + 1))
            case measure => omega
            case rel => exact ⟨k + 1, by omega, by omega, by go_num, HO5, HB5⟩
    · obtain rfl : k = X.length := by omega
      have HOe := Lib.hid (by have := HO.out; rwa [List.take_of_length_le (Nat.le_refl _)] at this : wo.ownsRow w1.heap.size 35 7 _ (n + (mMiss l X).length) (cGrant l ++ cGrant (mMiss l X)))
      have hm2 := mMiss_len l X
      have HBe := Lib.hid (below_trans HB1.out HB.out (Nat.le_refl _))
      obtain ⟨A2, c2, rfl, hF2⟩ := fr_of_own HOe.out
      have HF2 := Lib.hid (dr_own_base HOe.out HB1.out.size)
      clear HO hF2
      obtain ⟨N, hN⟩ : ∃ N, n + (mMiss l X).length = N := ⟨_, rfl⟩
      have HNN := Lib.hid hN
      rw [hN] at HF2
      try rw [hN]
      clear hN
      by_cases hok : X.length = 0 ∨ 16 < N
      · have HK := Lib.hid (show mLTkX l X = false by
          unfold mLTkX
          rcases hok with h | h
          · rw [List.isEmpty_iff_length_eq_zero.2 h]; rfl
          · rw [HL.out, decide_eq_false (by have := HNN.out; omega), Bool.and_false])
        have HRe := Lib.hid (HR.out.new HBe.out)
        have HOz := Lib.hid (show (wo.alloc (.cells #[] 35)).ownsRow wo.heap.size 35 7 (.slice (some ⟨wo.heap.size, 0, none⟩) 0 0) 0 ([] : List Value) from World.ownsRow_lit wo #[] 0 (Nat.le_refl _) (by unfold maxLen; omega) rfl)
        have hT : ((X.length : Int) == 0 || decide ((16 : Int) < (N : Int))) = true := by
          rcases hok with h | h
          · simp [h]
          · simp; exact Or.inr (by omega)
        clear hok
        go_wp2_with (at_builtin; refine wp_app rfl _ _ _ rfl wo.heap.size 35 (.agg #[.int .i64 0, .int .i64 0, .int .i64 0, .int .i64 0, .int .i64 0, .int .i64 0, .bool false]) 7 56 Try.underlying24 infoGrant rfl (by decide) _ _ _ rfl HOz.out lo hi A n c (cGrant l) rfl (HRe.out.alloc _) (ocGrant l) (by unfold maxLen; omega) (by omega) (by simp) ?_; intro v4 w4 ho4 hb4 _ _)
        all_goals
          obtain ⟨A4, c4, rfl, hF4⟩ := fr_of_own ho4
          have HF4 := Lib.hid (dr_own_base ho4 HBe.out.size)
          have HB4 := Lib.hid (below_trans HBe.out (((Below.refl wo.heap.size wo).alloc (Nat.le_refl _) _).trans hb4) (Nat.le_refl _))
          clear ho4 hb4 hF4
          go_ret2
          exact ⟨_, by first | (rw [HK.out]; done) | (rw [HK.out]; rfl) | (rw [HK.out]; simp), by rw [mLTX_no HK.out, HL.out]; simpa using HF4.out, HB4.out⟩
      · have HK := Lib.hid (show mLTkX l X = true by
          unfold mLTkX
          rw [HL.out, decide_eq_true (by have := HNN.out; omega)]
          cases X with
          | nil => exact absurd (Or.inl rfl) hok
          | cons => rfl)
        have hok1 : ¬ (X.length = 0) := fun h => hok (Or.inl h)
        have hok2 : ¬ (16 < N) := fun h => hok (Or.inr h)
        have hT : ((X.length : Int) == 0 || decide ((16 : Int) < (N : Int))) = false := by simp; exact ⟨fun h => hok1 (by rw [h]; rfl), by omega⟩
        clear hok
        go_wp2_with fail
        go_ret2
        exact ⟨.slice A2 N c2, by first | (rw [HK.out]; done) | (rw [HK.out]; rfl) | (rw [HK.out]; simp), by rw [mLTX_yes HK.out, List.length_append, HL.out, HNN.out]; simpa [cGrant, List.flatMap_append] using HF2.out, HBe.out⟩

end Go.Proofs.Ytfceddgacefejaa
