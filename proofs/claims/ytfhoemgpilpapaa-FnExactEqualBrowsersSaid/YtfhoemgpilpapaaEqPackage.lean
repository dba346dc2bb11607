/- EqualPackages, of the program and of the model, answer whether all fields are equal. -/
import Derived.Test.YtfhoemgpilpapaaRPackage
import Derived.Test.YtfhoemgpilpapaaEFlow
import Derived.Test.YtfhoemgpilpapaaEGrant
import Derived.Test.YtfhoemgpilpapaaEOp
import Derived.Test.YtfhoemgpilpapaaEqSRule
namespace Go.Proofs.Ytfhoemgpilpapaa
open Go Go.ChangeShapes Go.WideShapes Go.ChangeAt Go.RowKit Go.Lib
set_option linter.unusedVariables false
set_option linter.unusedSimpArgs false
set_option maxRecDepth 100000
set_option maxHeartbeats 8000000
def mEqPackage (p0 : Int) (p1 : Int) (p2 : Int) (l3 : List TGrant) (l4 : List TFlow) (l5 : List TRule) (l6 : List TOp) (p7 : Int) (p0' : Int) (p1' : Int) (p2' : Int) (l3' : List TGrant) (l4' : List TFlow) (l5' : List TRule) (l6' : List TOp) (p7' : Int) : Bool := (p0 == p0') && (p1 == p1') && (p2 == p2') && (p7 == p7') && decide (l3 = l3') && decide (l4 = l4') && decide (l5 = l5') && decide (l6 = l6')
theorem sleq_Grant (l l' : List TGrant) (A A' : Option Addr) (n n' c c' lo hi lo' hi' : Nat) (w : World) (hn : n ≤ 17592186044416) (hn' : n' ≤ 17592186044416) (hr : Rd w lo hi 7 A n (cGrant l)) (hr' : Rd w lo' hi' 7 A' n' (cGrant l')) :
    Calls Try.prog 89 #[.slice A n c, .slice A' n' c'] w (Quiet (.bool (decide (l = l'))) w) := by
  have HL := Lib.hid (rd_len TGrant.len hr (by decide))
  have HL' := Lib.hid (rd_len TGrant.len hr' (by decide))
  have HR := Lib.hid hr
  have HR' := Lib.hid hr'
  clear hr hr'
  by_cases hnn : n = n'
  · have g0 : ((n : Int) != n') = false := by simp; omega
    have HN := Lib.hid hnn
    clear hnn
    go_enter Try.func89, Try.ntmps89
    go_wp2_with fail
    go_loopw [13] (fun i wr => ∃ k : Nat, k ≤ n ∧ i = .int .i64 k ∧ l.take k = l'.take k ∧ ∃ d, wr = w.drewN d) (fun i _ => n - (intOf i).toNat)
    case atStart => exact ⟨0, Nat.zero_le _, rfl, rfl, 0, rfl⟩
    case round =>
      obtain ⟨k, hk, rfl, ht, d, rfl⟩ := hrel
      have HT := Lib.hid ht
      clear ht
      by_cases hlt : k < n
      · have hlt' : k < n' := by have := HN.out; omega
        obtain ⟨b, off, x, rfl, _, _, hz, hc⟩ := rd_elem TGrant.len HR.out HL.out hlt
        obtain ⟨b', off', x', rfl, _, _, hz', hc'⟩ := rd_elem TGrant.len HR'.out HL'.out hlt'
        have c0 : w.cell? ⟨b, off + k * 7, none⟩ = _ := hc 0 _ rfl
        have c1 := hc 1 _ rfl
        have c2 := hc 2 _ rfl
        have c3 := hc 3 _ rfl
        have c4 := hc 4 _ rfl
        have c5 := hc 5 _ rfl
        have c6 := hc 6 _ rfl
        have c0' : w.cell? ⟨b', off' + k * 7, none⟩ = _ := hc' 0 _ rfl
        have c1' := hc' 1 _ rfl
        have c2' := hc' 2 _ rfl
        have c3' := hc' 3 _ rfl
        have c4' := hc' 4 _ rfl
        have c5' := hc' 5 _ rfl
        have c6' := hc' 6 _ rfl
        have HZ := Lib.hid hz
        have HZ' := Lib.hid hz'
        clear hz hz' hc hc'
        by_cases e : x = x'
        · have g1 : ∀ w, _ := fun w => (neq_Grant x x' w).trans (by rw [decide_eq_true e])
          simp only [Bool.not_true] at g1
          have HE := Lib.hid (takes_eq_step HT.out HZ.out HZ'.out e)
          clear e
          go_wp2_with fail
          go_quiet (fail)
          go_wp2_with fail
          go_roundw
          case rel => exact ⟨k + 1, by omega, by go_num, HE.out, _, by first | exact World.drewN_drewN _ _ _ | rfl⟩
          case measure => simp [intOf]; omega
        · have g1 : ∀ w, _ := fun w => (neq_Grant x x' w).trans (by rw [decide_eq_false e])
          simp only [Bool.not_false] at g1
          have HE := Lib.hid (nes_at HZ.out HZ'.out e)
          clear e
          go_wp2_with fail
          go_quiet (fail)
          go_wp2_with fail
          go_ret
          exact ⟨by rw [HE.out]; rfl, _, by first | exact World.drewN_drewN _ _ _ | rfl⟩
      · obtain rfl : k = n := by omega
        have HE := Lib.hid (show decide (l = l') = true by
          rw [decide_eq_true_iff]
          have := HT.out
          rw [List.take_of_length_le (by have := HL.out; omega), List.take_of_length_le (by have := HL'.out; have := HN.out; omega)] at this
          exact this)
        go_wp2_with fail
        go_ret
        exact ⟨by rw [HE.out]; rfl, _, by first | exact World.drewN_drewN _ _ _ | rfl⟩
  · have g0 : ((n : Int) != n') = true := by simp; omega
    have HE := Lib.hid (show decide (l = l') = false by
      rw [decide_eq_false_iff_not]
      rintro rfl
      have := HL.out; have := HL'.out; omega)
    clear hnn
    go_enter Try.func89, Try.ntmps89
    go_wp2_with fail
    go_ret
    exact ⟨by rw [HE.out]; rfl, 0, rfl⟩

theorem sleq_Flow (l l' : List TFlow) (A A' : Option Addr) (n n' c c' lo hi lo' hi' : Nat) (w : World) (hn : n ≤ 17592186044416) (hn' : n' ≤ 17592186044416) (hr : Rd w lo hi 3 A n (cFlow l)) (hr' : Rd w lo' hi' 3 A' n' (cFlow l')) :
    Calls Try.prog 143 #[.slice A n c, .slice A' n' c'] w (Quiet (.bool (decide (l = l'))) w) := by
  have HL := Lib.hid (rd_len TFlow.len hr (by decide))
  have HL' := Lib.hid (rd_len TFlow.len hr' (by decide))
  have HR := Lib.hid hr
  have HR' := Lib.hid hr'
  clear hr hr'
  by_cases hnn : n = n'
  · have g0 : ((n : Int) != n') = false := by simp; omega
    have HN := Lib.hid hnn
    clear hnn
    go_enter Try.func143, Try.ntmps143
    go_wp2_with fail
    go_loopw [13] (fun i wr => ∃ k : Nat, k ≤ n ∧ i = .int .i64 k ∧ l.take k = l'.take k ∧ ∃ d, wr = w.drewN d) (fun i _ => n - (intOf i).toNat)
    case atStart => exact ⟨0, Nat.zero_le _, rfl, rfl, 0, rfl⟩
    case round =>
      obtain ⟨k, hk, rfl, ht, d, rfl⟩ := hrel
      have HT := Lib.hid ht
      clear ht
      by_cases hlt : k < n
      · have hlt' : k < n' := by have := HN.out; omega
        obtain ⟨b, off, x, rfl, _, _, hz, hc⟩ := rd_elem TFlow.len HR.out HL.out hlt
        obtain ⟨b', off', x', rfl, _, _, hz', hc'⟩ := rd_elem TFlow.len HR'.out HL'.out hlt'
        have c0 : w.cell? ⟨b, off + k * 3, none⟩ = _ := hc 0 _ rfl
        have c1 := hc 1 _ rfl
        have c2 := hc 2 _ rfl
        have c0' : w.cell? ⟨b', off' + k * 3, none⟩ = _ := hc' 0 _ rfl
        have c1' := hc' 1 _ rfl
        have c2' := hc' 2 _ rfl
        have HZ := Lib.hid hz
        have HZ' := Lib.hid hz'
        clear hz hz' hc hc'
        by_cases e : x = x'
        · have g1 : ∀ w, _ := fun w => (neq_Flow x x' w).trans (by rw [decide_eq_true e])
          simp only [Bool.not_true] at g1
          have HE := Lib.hid (takes_eq_step HT.out HZ.out HZ'.out e)
          clear e
          go_wp2_with fail
          go_quiet (fail)
          go_wp2_with fail
          go_roundw
          case rel => exact ⟨k + 1, by omega, by go_num, HE.out, _, by first | exact World.drewN_drewN _ _ _ | rfl⟩
          case measure => simp [intOf]; omega
        · have g1 : ∀ w, _ := fun w => (neq_Flow x x' w).trans (by rw [decide_eq_false e])
          simp only [Bool.not_false] at g1
          have HE := Lib.hid (nes_at HZ.out HZ'.out e)
          clear e
          go_wp2_with fail
          go_quiet (fail)
          go_wp2_with fail
          go_ret
          exact ⟨by rw [HE.out]; rfl, _, by first | exact World.drewN_drewN _ _ _ | rfl⟩
      · obtain rfl : k = n := by omega
        have HE := Lib.hid (show decide (l = l') = true by
          rw [decide_eq_true_iff]
          have := HT.out
          rw [List.take_of_length_le (by have := HL.out; omega), List.take_of_length_le (by have := HL'.out; have := HN.out; omega)] at this
          exact this)
        go_wp2_with fail
        go_ret
        exact ⟨by rw [HE.out]; rfl, _, by first | exact World.drewN_drewN _ _ _ | rfl⟩
  · have g0 : ((n : Int) != n') = true := by simp; omega
    have HE := Lib.hid (show decide (l = l') = false by
      rw [decide_eq_false_iff_not]
      rintro rfl
      have := HL.out; have := HL'.out; omega)
    clear hnn
    go_enter Try.func143, Try.ntmps143
    go_wp2_with fail
    go_ret
    exact ⟨by rw [HE.out]; rfl, 0, rfl⟩

theorem sleq_Op (l l' : List TOp) (A A' : Option Addr) (n n' c c' lo hi lo' hi' : Nat) (w : World) (hn : n ≤ 17592186044416) (hn' : n' ≤ 17592186044416) (hr : Rd w lo hi 4 A n (cOp l)) (hr' : Rd w lo' hi' 4 A' n' (cOp l')) :
    Calls Try.prog 144 #[.slice A n c, .slice A' n' c'] w (Quiet (.bool (decide (l = l'))) w) := by
  have HL := Lib.hid (rd_len TOp.len hr (by decide))
  have HL' := Lib.hid (rd_len TOp.len hr' (by decide))
  have HR := Lib.hid hr
  have HR' := Lib.hid hr'
  clear hr hr'
  by_cases hnn : n = n'
  · have g0 : ((n : Int) != n') = false := by simp; omega
    have HN := Lib.hid hnn
    clear hnn
    go_enter Try.func144, Try.ntmps144
    go_wp2_with fail
    go_loopw [13] (fun i wr => ∃ k : Nat, k ≤ n ∧ i = .int .i64 k ∧ l.take k = l'.take k ∧ ∃ d, wr = w.drewN d) (fun i _ => n - (intOf i).toNat)
    case atStart => exact ⟨0, Nat.zero_le _, rfl, rfl, 0, rfl⟩
    case round =>
      obtain ⟨k, hk, rfl, ht, d, rfl⟩ := hrel
      have HT := Lib.hid ht
      clear ht
      by_cases hlt : k < n
      · have hlt' : k < n' := by have := HN.out; omega
        obtain ⟨b, off, x, rfl, _, _, hz, hc⟩ := rd_elem TOp.len HR.out HL.out hlt
        obtain ⟨b', off', x', rfl, _, _, hz', hc'⟩ := rd_elem TOp.len HR'.out HL'.out hlt'
        have c0 : w.cell? ⟨b, off + k * 4, none⟩ = _ := hc 0 _ rfl
        have c1 := hc 1 _ rfl
        have c2 := hc 2 _ rfl
        have c3 := hc 3 _ rfl
        have c0' : w.cell? ⟨b', off' + k * 4, none⟩ = _ := hc' 0 _ rfl
        have c1' := hc' 1 _ rfl
        have c2' := hc' 2 _ rfl
        have c3' := hc' 3 _ rfl
        have HZ := Lib.hid hz
        have HZ' := Lib.hid hz'
        clear hz hz' hc hc'
        by_cases e : x = x'
        · have g1 : ∀ w, _ := fun w => (neq_Op x x' w).trans (by rw [decide_eq_true e])
          simp only [Bool.not_true] at g1
          have HE := Lib.hid (takes_eq_step HT.out HZ.out HZ'.out e)
          clear e
          go_wp2_with fail
          go_quiet (fail)
          go_wp2_with fail
          go_roundw
          case rel => exact ⟨k + 1, by omega, by go_num, HE.out, _, by first | exact World.drewN_drewN _ _ _ | rfl⟩
          case measure => simp [intOf]; omega
        · have g1 : ∀ w, _ := fun w => (neq_Op x x' w).trans (by rw [decide_eq_false e])
          simp only [Bool.not_false] at g1
          have HE := Lib.hid (nes_at HZ.out HZ'.out e)
          clear e
          go_wp2_with fail
          go_quiet (fail)
          go_wp2_with fail
          go_ret
          exact ⟨by rw [HE.out]; rfl, _, by first | exact World.drewN_drewN _ _ _ | rfl⟩
      · obtain rfl : k = n := by omega
        have HE := Lib.hid (show decide (l = l') = true by
          rw [decide_eq_true_iff]
          have := HT.out
          rw [List.take_of_length_le (by have := HL.out; omega), List.take_of_length_le (by have := HL'.out; have := HN.out; omega)] at this
          exact this)
        go_wp2_with fail
        go_ret
        exact ⟨by rw [HE.out]; rfl, _, by first | exact World.drewN_drewN _ _ _ | rfl⟩
  · have g0 : ((n : Int) != n') = true := by simp; omega
    have HE := Lib.hid (show decide (l = l') = false by
      rw [decide_eq_false_iff_not]
      rintro rfl
      have := HL.out; have := HL'.out; omega)
    clear hnn
    go_enter Try.func144, Try.ntmps144
    go_wp2_with fail
    go_ret
    exact ⟨by rw [HE.out]; rfl, 0, rfl⟩


theorem impl_EqualPackages (p0 : Int) (p1 : Int) (p2 : Int) (l3 : List TGrant) (A3 : Option Addr) (n3 c3 lo3 hi3 : Nat) (l4 : List TFlow) (A4 : Option Addr) (n4 c4 lo4 hi4 : Nat) (l5 : List TRule) (A5 : Option Addr) (n5 c5 lo5 hi5 : Nat) (l6 : List TOp) (A6 : Option Addr) (n6 c6 lo6 hi6 : Nat) (p7 : Int) (p0' : Int) (p1' : Int) (p2' : Int) (l3' : List TGrant) (A3' : Option Addr) (n3' c3' lo3' hi3' : Nat) (l4' : List TFlow) (A4' : Option Addr) (n4' c4' lo4' hi4' : Nat) (l5' : List TRule) (A5' : Option Addr) (n5' c5' lo5' hi5' : Nat) (l6' : List TOp) (A6' : Option Addr) (n6' c6' lo6' hi6' : Nat) (p7' : Int) (w : World) (h3 : n3 ≤ 1048576) (r3 : Rd w lo3 hi3 7 A3 n3 (cGrant l3)) (b3 : Hid (cGrantOk l3)) (h4 : n4 ≤ 1048576) (r4 : Rd w lo4 hi4 3 A4 n4 (cFlow l4)) (b4 : Hid (cFlowOk l4)) (h5 : n5 ≤ 1048576) (r5 : Rd w lo5 hi5 8 A5 n5 (cRule l5)) (b5 : Hid (cRuleOk l5)) (h6 : n6 ≤ 1048576) (r6 : Rd w lo6 hi6 4 A6 n6 (cOp l6)) (b6 : Hid (cOpOk l6)) (h3' : n3' ≤ 1048576) (r3' : Rd w lo3' hi3' 7 A3' n3' (cGrant l3')) (b3' : Hid (cGrantOk l3')) (h4' : n4' ≤ 1048576) (r4' : Rd w lo4' hi4' 3 A4' n4' (cFlow l4')) (b4' : Hid (cFlowOk l4')) (h5' : n5' ≤ 1048576) (r5' : Rd w lo5' hi5' 8 A5' n5' (cRule l5')) (b5' : Hid (cRuleOk l5')) (h6' : n6' ≤ 1048576) (r6' : Rd w lo6' hi6' 4 A6' n6' (cOp l6')) (b6' : Hid (cOpOk l6')) :
    Calls Try.prog 88 #[.agg #[.int .i64 p0, .int .i64 p1, .int .i64 p2, .slice A3 n3 c3, .slice A4 n4 c4, .slice A5 n5 c5, .slice A6 n6 c6, .int .i64 p7], .agg #[.int .i64 p0', .int .i64 p1', .int .i64 p2', .slice A3' n3' c3', .slice A4' n4' c4', .slice A5' n5' c5', .slice A6' n6' c6', .int .i64 p7']] w (Says (.bool (mEqPackage p0 p1 p2 l3 l4 l5 l6 p7 p0' p1' p2' l3' l4' l5' l6' p7')) w) := by
  have R3 := Lib.hid (r3)
  clear r3
  have R3' := Lib.hid (r3')
  clear r3'
  have R4 := Lib.hid (r4)
  clear r4
  have R4' := Lib.hid (r4')
  clear r4'
  have R5 := Lib.hid (r5)
  clear r5
  have R5' := Lib.hid (r5')
  clear r5'
  have R6 := Lib.hid (r6)
  clear r6
  have R6' := Lib.hid (r6')
  clear r6'
  have KA := Lib.hid (show BoxAt ((w.alloc (.cells #[.int .i64 p0, .int .i64 p1, .int .i64 p2, .slice A3 n3 c3, .slice A4 n4 c4, .slice A5 n5 c5, .slice A6 n6 c6, .int .i64 p7] 68)).alloc (.cells #[.int .i64 p0', .int .i64 p1', .int .i64 p2', .slice A3' n3' c3', .slice A4' n4' c4', .slice A5' n5' c5', .slice A6' n6' c6', .int .i64 p7'] 68)) w.heap.size 68 #[.int .i64 p0, .int .i64 p1, .int .i64 p2, .slice A3 n3 c3, .slice A4 n4 c4, .slice A5 n5 c5, .slice A6 n6 c6, .int .i64 p7] from (box_new w 68 #[.int .i64 p0, .int .i64 p1, .int .i64 p2, .slice A3 n3 c3, .slice A4 n4 c4, .slice A5 n5 c5, .slice A6 n6 c6, .int .i64 p7]).alloc_ _)
  have KC := Lib.hid (show BoxAt ((w.alloc (.cells #[.int .i64 p0, .int .i64 p1, .int .i64 p2, .slice A3 n3 c3, .slice A4 n4 c4, .slice A5 n5 c5, .slice A6 n6 c6, .int .i64 p7] 68)).alloc (.cells #[.int .i64 p0', .int .i64 p1', .int .i64 p2', .slice A3' n3' c3', .slice A4' n4' c4', .slice A5' n5' c5', .slice A6' n6' c6', .int .i64 p7'] 68)) (w.heap.size + 1) 68 #[.int .i64 p0', .int .i64 p1', .int .i64 p2', .slice A3' n3' c3', .slice A4' n4' c4', .slice A5' n5' c5', .slice A6' n6' c6', .int .i64 p7'] by simpa using box_new (w.alloc (.cells #[.int .i64 p0, .int .i64 p1, .int .i64 p2, .slice A3 n3 c3, .slice A4 n4 c4, .slice A5 n5 c5, .slice A6 n6 c6, .int .i64 p7] 68)) 68 #[.int .i64 p0', .int .i64 p1', .int .i64 p2', .slice A3' n3' c3', .slice A4' n4' c4', .slice A5' n5' c5', .slice A6' n6' c6', .int .i64 p7'])
  have HB := Lib.hid (show Below w.heap.size w ((w.alloc (.cells #[.int .i64 p0, .int .i64 p1, .int .i64 p2, .slice A3 n3 c3, .slice A4 n4 c4, .slice A5 n5 c5, .slice A6 n6 c6, .int .i64 p7] 68)).alloc (.cells #[.int .i64 p0', .int .i64 p1', .int .i64 p2', .slice A3' n3' c3', .slice A4' n4' c4', .slice A5' n5' c5', .slice A6' n6' c6', .int .i64 p7'] 68)) from ((Below.refl _ _).alloc (Nat.le_refl _) _).alloc (by simp) _)
  by_cases h_0 : (p0 == p0') = true
  · skip
    by_cases h_1 : (p1 == p1') = true
    · skip
      by_cases h_2 : (p2 == p2') = true
      · skip
        by_cases h_7 : (p7 == p7') = true
        · skip
          by_cases e3 : l3 = l3'
          · skip
            by_cases e4 : l4 = l4'
            · skip
              by_cases e5 : l5 = l5'
              · skip
                by_cases e6 : l6 = l6'
                · skip
                  have HE := Lib.hid (show mEqPackage p0 p1 p2 l3 l4 l5 l6 p7 p0' p1' p2' l3' l4' l5' l6' p7' = true by unfold mEqPackage; simp [h_0, h_1, h_2, h_7, e3, e4, e5, e6])
                  have D3 := Lib.hid (show decide (l3 = l3') = true by rw [decide_eq_true e3])
                  have D4 := Lib.hid (show decide (l4 = l4') = true by rw [decide_eq_true e4])
                  have D5 := Lib.hid (show decide (l5 = l5') = true by rw [decide_eq_true e5])
                  have D6 := Lib.hid (show decide (l6 = l6') = true by rw [decide_eq_true e6])
                  clear e3 e4 e5 e6
                  go_enter Try.func88, Try.ntmps88
                  go_wp2_with fail
                  refine Calls.mono (sleq_Grant l3 l3' A3 A3' n3 n3' c3 c3' lo3 hi3 lo3' hi3' _ (by omega) (by omega) (R3.out.new HB.out) (R3'.out.new HB.out)) ?_
                  rw [D3.out]
                  rintro e w1 hq
                  obtain ⟨rfl, hb⟩ := hq.says
                  replace KA := Lib.hid (KA.out.new hb)
                  replace KC := Lib.hid (KC.out.new hb)
                  replace HB := Lib.hid (below_trans HB.out hb (Nat.le_refl _))
                  clear hb
                  have ea0 := KA.out.at_ (j := 0) rfl
                  have ec0 := KC.out.at_ (j := 0) rfl
                  have ea1 := KA.out.at_ (j := 1) rfl
                  have ec1 := KC.out.at_ (j := 1) rfl
                  have ea2 := KA.out.at_ (j := 2) rfl
                  have ec2 := KC.out.at_ (j := 2) rfl
                  have ea3 := KA.out.at_ (j := 3) rfl
                  have ec3 := KC.out.at_ (j := 3) rfl
                  have ea4 := KA.out.at_ (j := 4) rfl
                  have ec4 := KC.out.at_ (j := 4) rfl
                  have ea5 := KA.out.at_ (j := 5) rfl
                  have ec5 := KC.out.at_ (j := 5) rfl
                  have ea6 := KA.out.at_ (j := 6) rfl
                  have ec6 := KC.out.at_ (j := 6) rfl
                  have ea7 := KA.out.at_ (j := 7) rfl
                  have ec7 := KC.out.at_ (j := 7) rfl
                  go_wp2_with fail
                  clear ea0 ec0 ea1 ec1 ea2 ec2 ea3 ec3 ea4 ec4 ea5 ec5 ea6 ec6 ea7 ec7
                  refine Calls.mono (sleq_Flow l4 l4' A4 A4' n4 n4' c4 c4' lo4 hi4 lo4' hi4' _ (by omega) (by omega) (R4.out.new HB.out) (R4'.out.new HB.out)) ?_
                  rw [D4.out]
                  rintro e w2 hq
                  obtain ⟨rfl, hb⟩ := hq.says
                  replace KA := Lib.hid (KA.out.new hb)
                  replace KC := Lib.hid (KC.out.new hb)
                  replace HB := Lib.hid (below_trans HB.out hb (Nat.le_refl _))
                  clear hb
                  have ea0 := KA.out.at_ (j := 0) rfl
                  have ec0 := KC.out.at_ (j := 0) rfl
                  have ea1 := KA.out.at_ (j := 1) rfl
                  have ec1 := KC.out.at_ (j := 1) rfl
                  have ea2 := KA.out.at_ (j := 2) rfl
                  have ec2 := KC.out.at_ (j := 2) rfl
                  have ea3 := KA.out.at_ (j := 3) rfl
                  have ec3 := KC.out.at_ (j := 3) rfl
                  have ea4 := KA.out.at_ (j := 4) rfl
                  have ec4 := KC.out.at_ (j := 4) rfl
                  have ea5 := KA.out.at_ (j := 5) rfl
                  have ec5 := KC.out.at_ (j := 5) rfl
                  have ea6 := KA.out.at_ (j := 6) rfl
                  have ec6 := KC.out.at_ (j := 6) rfl
                  have ea7 := KA.out.at_ (j := 7) rfl
                  have ec7 := KC.out.at_ (j := 7) rfl
                  go_wp2_with fail
                  clear ea0 ec0 ea1 ec1 ea2 ec2 ea3 ec3 ea4 ec4 ea5 ec5 ea6 ec6 ea7 ec7
                  refine Calls.mono (impl_EqualRules l5 A5 n5 c5 lo5 hi5 l5' A5' n5' c5' lo5' hi5' _ h5 (R5.out.new HB.out) b5 h5' (R5'.out.new HB.out) b5') ?_
                  rw [D5.out]
                  rintro e w3 ⟨rfl, hb⟩
                  replace KA := Lib.hid (KA.out.new hb)
                  replace KC := Lib.hid (KC.out.new hb)
                  replace HB := Lib.hid (below_trans HB.out hb (Nat.le_refl _))
                  clear hb
                  have ea0 := KA.out.at_ (j := 0) rfl
                  have ec0 := KC.out.at_ (j := 0) rfl
                  have ea1 := KA.out.at_ (j := 1) rfl
                  have ec1 := KC.out.at_ (j := 1) rfl
                  have ea2 := KA.out.at_ (j := 2) rfl
                  have ec2 := KC.out.at_ (j := 2) rfl
                  have ea3 := KA.out.at_ (j := 3) rfl
                  have ec3 := KC.out.at_ (j := 3) rfl
                  have ea4 := KA.out.at_ (j := 4) rfl
                  have ec4 := KC.out.at_ (j := 4) rfl
                  have ea5 := KA.out.at_ (j := 5) rfl
                  have ec5 := KC.out.at_ (j := 5) rfl
                  have ea6 := KA.out.at_ (j := 6) rfl
                  have ec6 := KC.out.at_ (j := 6) rfl
                  have ea7 := KA.out.at_ (j := 7) rfl
                  have ec7 := KC.out.at_ (j := 7) rfl
                  go_wp2_with fail
                  clear ea0 ec0 ea1 ec1 ea2 ec2 ea3 ec3 ea4 ec4 ea5 ec5 ea6 ec6 ea7 ec7
                  refine Calls.mono (sleq_Op l6 l6' A6 A6' n6 n6' c6 c6' lo6 hi6 lo6' hi6' _ (by omega) (by omega) (R6.out.new HB.out) (R6'.out.new HB.out)) ?_
                  rw [D6.out]
                  rintro e w4 hq
                  obtain ⟨rfl, hb⟩ := hq.says
                  replace KA := Lib.hid (KA.out.new hb)
                  replace KC := Lib.hid (KC.out.new hb)
                  replace HB := Lib.hid (below_trans HB.out hb (Nat.le_refl _))
                  clear hb
                  go_wp2_with fail
                  go_ret
                  exact ⟨by rw [HE.out]; rfl, HB.out⟩
                · skip
                  have HE := Lib.hid (show mEqPackage p0 p1 p2 l3 l4 l5 l6 p7 p0' p1' p2' l3' l4' l5' l6' p7' = false by unfold mEqPackage; simp [h_0, h_1, h_2, h_7, e3, e4, e5, e6])
                  have D3 := Lib.hid (show decide (l3 = l3') = true by rw [decide_eq_true e3])
                  have D4 := Lib.hid (show decide (l4 = l4') = true by rw [decide_eq_true e4])
                  have D5 := Lib.hid (show decide (l5 = l5') = true by rw [decide_eq_true e5])
                  have D6 := Lib.hid (show decide (l6 = l6') = false by rw [decide_eq_false e6])
                  clear e3 e4 e5 e6
                  go_enter Try.func88, Try.ntmps88
                  go_wp2_with fail
                  refine Calls.mono (sleq_Grant l3 l3' A3 A3' n3 n3' c3 c3' lo3 hi3 lo3' hi3' _ (by omega) (by omega) (R3.out.new HB.out) (R3'.out.new HB.out)) ?_
                  rw [D3.out]
                  rintro e w1 hq
                  obtain ⟨rfl, hb⟩ := hq.says
                  replace KA := Lib.hid (KA.out.new hb)
                  replace KC := Lib.hid (KC.out.new hb)
                  replace HB := Lib.hid (below_trans HB.out hb (Nat.le_refl _))
                  clear hb
                  have ea0 := KA.out.at_ (j := 0) rfl
                  have ec0 := KC.out.at_ (j := 0) rfl
                  have ea1 := KA.out.at_ (j := 1) rfl
                  have ec1 := KC.out.at_ (j := 1) rfl
                  have ea2 := KA.out.at_ (j := 2) rfl
                  have ec2 := KC.out.at_ (j := 2) rfl
                  have ea3 := KA.out.at_ (j := 3) rfl
                  have ec3 := KC.out.at_ (j := 3) rfl
                  have ea4 := KA.out.at_ (j := 4) rfl
                  have ec4 := KC.out.at_ (j := 4) rfl
                  have ea5 := KA.out.at_ (j := 5) rfl
                  have ec5 := KC.out.at_ (j := 5) rfl
                  have ea6 := KA.out.at_ (j := 6) rfl
                  have ec6 := KC.out.at_ (j := 6) rfl
                  have ea7 := KA.out.at_ (j := 7) rfl
                  have ec7 := KC.out.at_ (j := 7) rfl
                  go_wp2_with fail
                  clear ea0 ec0 ea1 ec1 ea2 ec2 ea3 ec3 ea4 ec4 ea5 ec5 ea6 ec6 ea7 ec7
                  refine Calls.mono (sleq_Flow l4 l4' A4 A4' n4 n4' c4 c4' lo4 hi4 lo4' hi4' _ (by omega) (by omega) (R4.out.new HB.out) (R4'.out.new HB.out)) ?_
                  rw [D4.out]
                  rintro e w2 hq
                  obtain ⟨rfl, hb⟩ := hq.says
                  replace KA := Lib.hid (KA.out.new hb)
                  replace KC := Lib.hid (KC.out.new hb)
                  replace HB := Lib.hid (below_trans HB.out hb (Nat.le_refl _))
                  clear hb
                  have ea0 := KA.out.at_ (j := 0) rfl
                  have ec0 := KC.out.at_ (j := 0) rfl
                  have ea1 := KA.out.at_ (j := 1) rfl
                  have ec1 := KC.out.at_ (j := 1) rfl
                  have ea2 := KA.out.at_ (j := 2) rfl
                  have ec2 := KC.out.at_ (j := 2) rfl
                  have ea3 := KA.out.at_ (j := 3) rfl
                  have ec3 := KC.out.at_ (j := 3) rfl
                  have ea4 := KA.out.at_ (j := 4) rfl
                  have ec4 := KC.out.at_ (j := 4) rfl
                  have ea5 := KA.out.at_ (j := 5) rfl
                  have ec5 := KC.out.at_ (j := 5) rfl
                  have ea6 := KA.out.at_ (j := 6) rfl
                  have ec6 := KC.out.at_ (j := 6) rfl
                  have ea7 := KA.out.at_ (j := 7) rfl
                  have ec7 := KC.out.at_ (j := 7) rfl
                  go_wp2_with fail
                  clear ea0 ec0 ea1 ec1 ea2 ec2 ea3 ec3 ea4 ec4 ea5 ec5 ea6 ec6 ea7 ec7
                  refine Calls.mono (impl_EqualRules l5 A5 n5 c5 lo5 hi5 l5' A5' n5' c5' lo5' hi5' _ h5 (R5.out.new HB.out) b5 h5' (R5'.out.new HB.out) b5') ?_
                  rw [D5.out]
                  rintro e w3 ⟨rfl, hb⟩
                  replace KA := Lib.hid (KA.out.new hb)
                  replace KC := Lib.hid (KC.out.new hb)
                  replace HB := Lib.hid (below_trans HB.out hb (Nat.le_refl _))
                  clear hb
                  have ea0 := KA.out.at_ (j := 0) rfl
                  have ec0 := KC.out.at_ (j := 0) rfl
                  have ea1 := KA.out.at_ (j := 1) rfl
                  have ec1 := KC.out.at_ (j := 1) rfl
                  have ea2 := KA.out.at_ (j := 2) rfl
                  have ec2 := KC.out.at_ (j := 2) rfl
                  have ea3 := KA.out.at_ (j := 3) rfl
                  have ec3 := KC.out.at_ (j := 3) rfl
                  have ea4 := KA.out.at_ (j := 4) rfl
                  have ec4 := KC.out.at_ (j := 4) rfl
                  have ea5 := KA.out.at_ (j := 5) rfl
                  have ec5 := KC.out.at_ (j := 5) rfl
                  have ea6 := KA.out.at_ (j := 6) rfl
                  have ec6 := KC.out.at_ (j := 6) rfl
                  have ea7 := KA.out.at_ (j := 7) rfl
                  have ec7 := KC.out.at_ (j := 7) rfl
                  go_wp2_with fail
                  clear ea0 ec0 ea1 ec1 ea2 ec2 ea3 ec3 ea4 ec4 ea5 ec5 ea6 ec6 ea7 ec7
                  refine Calls.mono (sleq_Op l6 l6' A6 A6' n6 n6' c6 c6' lo6 hi6 lo6' hi6' _ (by omega) (by omega) (R6.out.new HB.out) (R6'.out.new HB.out)) ?_
                  rw [D6.out]
                  rintro e w4 hq
                  obtain ⟨rfl, hb⟩ := hq.says
                  replace KA := Lib.hid (KA.out.new hb)
                  replace KC := Lib.hid (KC.out.new hb)
                  replace HB := Lib.hid (below_trans HB.out hb (Nat.le_refl _))
                  clear hb
                  go_wp2_with fail
                  go_ret
                  exact ⟨by rw [HE.out]; rfl, HB.out⟩
              · skip
                have HE := Lib.hid (show mEqPackage p0 p1 p2 l3 l4 l5 l6 p7 p0' p1' p2' l3' l4' l5' l6' p7' = false by unfold mEqPackage; simp [h_0, h_1, h_2, h_7, e3, e4, e5])
                have D3 := Lib.hid (show decide (l3 = l3') = true by rw [decide_eq_true e3])
                have D4 := Lib.hid (show decide (l4 = l4') = true by rw [decide_eq_true e4])
                have D5 := Lib.hid (show decide (l5 = l5') = false by rw [decide_eq_false e5])
                clear e3 e4 e5
                go_enter Try.func88, Try.ntmps88
                go_wp2_with fail
                refine Calls.mono (sleq_Grant l3 l3' A3 A3' n3 n3' c3 c3' lo3 hi3 lo3' hi3' _ (by omega) (by omega) (R3.out.new HB.out) (R3'.out.new HB.out)) ?_
                rw [D3.out]
                rintro e w1 hq
                obtain ⟨rfl, hb⟩ := hq.says
                replace KA := Lib.hid (KA.out.new hb)
                replace KC := Lib.hid (KC.out.new hb)
                replace HB := Lib.hid (below_trans HB.out hb (Nat.le_refl _))
                clear hb
                have ea0 := KA.out.at_ (j := 0) rfl
                have ec0 := KC.out.at_ (j := 0) rfl
                have ea1 := KA.out.at_ (j := 1) rfl
                have ec1 := KC.out.at_ (j := 1) rfl
                have ea2 := KA.out.at_ (j := 2) rfl
                have ec2 := KC.out.at_ (j := 2) rfl
                have ea3 := KA.out.at_ (j := 3) rfl
                have ec3 := KC.out.at_ (j := 3) rfl
                have ea4 := KA.out.at_ (j := 4) rfl
                have ec4 := KC.out.at_ (j := 4) rfl
                have ea5 := KA.out.at_ (j := 5) rfl
                have ec5 := KC.out.at_ (j := 5) rfl
                have ea6 := KA.out.at_ (j := 6) rfl
                have ec6 := KC.out.at_ (j := 6) rfl
                have ea7 := KA.out.at_ (j := 7) rfl
                have ec7 := KC.out.at_ (j := 7) rfl
                go_wp2_with fail
                clear ea0 ec0 ea1 ec1 ea2 ec2 ea3 ec3 ea4 ec4 ea5 ec5 ea6 ec6 ea7 ec7
                refine Calls.mono (sleq_Flow l4 l4' A4 A4' n4 n4' c4 c4' lo4 hi4 lo4' hi4' _ (by omega) (by omega) (R4.out.new HB.out) (R4'.out.new HB.out)) ?_
                rw [D4.out]
                rintro e w2 hq
                obtain ⟨rfl, hb⟩ := hq.says
                replace KA := Lib.hid (KA.out.new hb)
                replace KC := Lib.hid (KC.out.new hb)
                replace HB := Lib.hid (below_trans HB.out hb (Nat.le_refl _))
                clear hb
                have ea0 := KA.out.at_ (j := 0) rfl
                have ec0 := KC.out.at_ (j := 0) rfl
                have ea1 := KA.out.at_ (j := 1) rfl
                have ec1 := KC.out.at_ (j := 1) rfl
                have ea2 := KA.out.at_ (j := 2) rfl
                have ec2 := KC.out.at_ (j := 2) rfl
                have ea3 := KA.out.at_ (j := 3) rfl
                have ec3 := KC.out.at_ (j := 3) rfl
                have ea4 := KA.out.at_ (j := 4) rfl
                have ec4 := KC.out.at_ (j := 4) rfl
                have ea5 := KA.out.at_ (j := 5) rfl
                have ec5 := KC.out.at_ (j := 5) rfl
                have ea6 := KA.out.at_ (j := 6) rfl
                have ec6 := KC.out.at_ (j := 6) rfl
                have ea7 := KA.out.at_ (j := 7) rfl
                have ec7 := KC.out.at_ (j := 7) rfl
                go_wp2_with fail
                clear ea0 ec0 ea1 ec1 ea2 ec2 ea3 ec3 ea4 ec4 ea5 ec5 ea6 ec6 ea7 ec7
                refine Calls.mono (impl_EqualRules l5 A5 n5 c5 lo5 hi5 l5' A5' n5' c5' lo5' hi5' _ h5 (R5.out.new HB.out) b5 h5' (R5'.out.new HB.out) b5') ?_
                rw [D5.out]
                rintro e w3 ⟨rfl, hb⟩
                replace KA := Lib.hid (KA.out.new hb)
                replace KC := Lib.hid (KC.out.new hb)
                replace HB := Lib.hid (below_trans HB.out hb (Nat.le_refl _))
                clear hb
                go_wp2_with fail
                go_ret
                exact ⟨by rw [HE.out]; rfl, HB.out⟩
            · skip
              have HE := Lib.hid (show mEqPackage p0 p1 p2 l3 l4 l5 l6 p7 p0' p1' p2' l3' l4' l5' l6' p7' = false by unfold mEqPackage; simp [h_0, h_1, h_2, h_7, e3, e4])
              have D3 := Lib.hid (show decide (l3 = l3') = true by rw [decide_eq_true e3])
              have D4 := Lib.hid (show decide (l4 = l4') = false by rw [decide_eq_false e4])
              clear e3 e4
              go_enter Try.func88, Try.ntmps88
              go_wp2_with fail
              refine Calls.mono (sleq_Grant l3 l3' A3 A3' n3 n3' c3 c3' lo3 hi3 lo3' hi3' _ (by omega) (by omega) (R3.out.new HB.out) (R3'.out.new HB.out)) ?_
              rw [D3.out]
              rintro e w1 hq
              obtain ⟨rfl, hb⟩ := hq.says
              replace KA := Lib.hid (KA.out.new hb)
              replace KC := Lib.hid (KC.out.new hb)
              replace HB := Lib.hid (below_trans HB.out hb (Nat.le_refl _))
              clear hb
              have ea0 := KA.out.at_ (j := 0) rfl
              have ec0 := KC.out.at_ (j := 0) rfl
              have ea1 := KA.out.at_ (j := 1) rfl
              have ec1 := KC.out.at_ (j := 1) rfl
              have ea2 := KA.out.at_ (j := 2) rfl
              have ec2 := KC.out.at_ (j := 2) rfl
              have ea3 := KA.out.at_ (j := 3) rfl
              have ec3 := KC.out.at_ (j := 3) rfl
              have ea4 := KA.out.at_ (j := 4) rfl
              have ec4 := KC.out.at_ (j := 4) rfl
              have ea5 := KA.out.at_ (j := 5) rfl
              have ec5 := KC.out.at_ (j := 5) rfl
              have ea6 := KA.out.at_ (j := 6) rfl
              have ec6 := KC.out.at_ (j := 6) rfl
              have ea7 := KA.out.at_ (j := 7) rfl
              have ec7 := KC.out.at_ (j := 7) rfl
              go_wp2_with fail
              clear ea0 ec0 ea1 ec1 ea2 ec2 ea3 ec3 ea4 ec4 ea5 ec5 ea6 ec6 ea7 ec7
              refine Calls.mono (sleq_Flow l4 l4' A4 A4' n4 n4' c4 c4' lo4 hi4 lo4' hi4' _ (by omega) (by omega) (R4.out.new HB.out) (R4'.out.new HB.out)) ?_
              rw [D4.out]
              rintro e w2 hq
              obtain ⟨rfl, hb⟩ := hq.says
              replace KA := Lib.hid (KA.out.new hb)
              replace KC := Lib.hid (KC.out.new hb)
              replace HB := Lib.hid (below_trans HB.out hb (Nat.le_refl _))
              clear hb
              go_wp2_with fail
              go_ret
              exact ⟨by rw [HE.out]; rfl, HB.out⟩
          · skip
            have HE := Lib.hid (show mEqPackage p0 p1 p2 l3 l4 l5 l6 p7 p0' p1' p2' l3' l4' l5' l6' p7' = false by unfold mEqPackage; simp [h_0, h_1, h_2, h_7, e3])
            have D3 := Lib.hid (show decide (l3 = l3') = false by rw [decide_eq_false e3])
            clear e3
            go_enter Try.func88, Try.ntmps88
            go_wp2_with fail
            refine Calls.mono (sleq_Grant l3 l3' A3 A3' n3 n3' c3 c3' lo3 hi3 lo3' hi3' _ (by omega) (by omega) (R3.out.new HB.out) (R3'.out.new HB.out)) ?_
            rw [D3.out]
            rintro e w1 hq
            obtain ⟨rfl, hb⟩ := hq.says
            replace KA := Lib.hid (KA.out.new hb)
            replace KC := Lib.hid (KC.out.new hb)
            replace HB := Lib.hid (below_trans HB.out hb (Nat.le_refl _))
            clear hb
            go_wp2_with fail
            go_ret
            exact ⟨by rw [HE.out]; rfl, HB.out⟩
        · skip
          have h_7 : (p7 == p7') = false := by simpa using h_7
          have HE := Lib.hid (show mEqPackage p0 p1 p2 l3 l4 l5 l6 p7 p0' p1' p2' l3' l4' l5' l6' p7' = false by unfold mEqPackage; simp [h_0, h_1, h_2, h_7])
          go_enter Try.func88, Try.ntmps88
          go_wp2_with fail
          go_ret
          exact ⟨by rw [HE.out]; rfl, HB.out⟩
      · skip
        have h_2 : (p2 == p2') = false := by simpa using h_2
        have HE := Lib.hid (show mEqPackage p0 p1 p2 l3 l4 l5 l6 p7 p0' p1' p2' l3' l4' l5' l6' p7' = false by unfold mEqPackage; simp [h_0, h_1, h_2])
        go_enter Try.func88, Try.ntmps88
        go_wp2_with fail
        go_ret
        exact ⟨by rw [HE.out]; rfl, HB.out⟩
    · skip
      have h_1 : (p1 == p1') = false := by simpa using h_1
      have HE := Lib.hid (show mEqPackage p0 p1 p2 l3 l4 l5 l6 p7 p0' p1' p2' l3' l4' l5' l6' p7' = false by unfold mEqPackage; simp [h_0, h_1])
      go_enter Try.func88, Try.ntmps88
      go_wp2_with fail
      go_ret
      exact ⟨by rw [HE.out]; rfl, HB.out⟩
  · skip
    have h_0 : (p0 == p0') = false := by simpa using h_0
    have HE := Lib.hid (show mEqPackage p0 p1 p2 l3 l4 l5 l6 p7 p0' p1' p2' l3' l4' l5' l6' p7' = false by unfold mEqPackage; simp [h_0])
    go_enter Try.func88, Try.ntmps88
    go_wp2_with fail
    go_ret
    exact ⟨by rw [HE.out]; rfl, HB.out⟩

theorem spec_EqualPackages (p0 : Int) (p1 : Int) (p2 : Int) (l3 : List TGrant) (A3 : Option Addr) (n3 c3 lo3 hi3 : Nat) (l4 : List TFlow) (A4 : Option Addr) (n4 c4 lo4 hi4 : Nat) (l5 : List TRule) (A5 : Option Addr) (n5 c5 lo5 hi5 : Nat) (l6 : List TOp) (A6 : Option Addr) (n6 c6 lo6 hi6 : Nat) (p7 : Int) (p0' : Int) (p1' : Int) (p2' : Int) (l3' : List TGrant) (A3' : Option Addr) (n3' c3' lo3' hi3' : Nat) (l4' : List TFlow) (A4' : Option Addr) (n4' c4' lo4' hi4' : Nat) (l5' : List TRule) (A5' : Option Addr) (n5' c5' lo5' hi5' : Nat) (l6' : List TOp) (A6' : Option Addr) (n6' c6' lo6' hi6' : Nat) (p7' : Int) (w : World) (h3 : n3 ≤ 1048576) (r3 : Rd w lo3 hi3 7 A3 n3 (cGrant l3)) (b3 : Hid (cGrantOk l3)) (h4 : n4 ≤ 1048576) (r4 : Rd w lo4 hi4 3 A4 n4 (cFlow l4)) (b4 : Hid (cFlowOk l4)) (h5 : n5 ≤ 1048576) (r5 : Rd w lo5 hi5 8 A5 n5 (cRule l5)) (b5 : Hid (cRuleOk l5)) (h6 : n6 ≤ 1048576) (r6 : Rd w lo6 hi6 4 A6 n6 (cOp l6)) (b6 : Hid (cOpOk l6)) (h3' : n3' ≤ 1048576) (r3' : Rd w lo3' hi3' 7 A3' n3' (cGrant l3')) (b3' : Hid (cGrantOk l3')) (h4' : n4' ≤ 1048576) (r4' : Rd w lo4' hi4' 3 A4' n4' (cFlow l4')) (b4' : Hid (cFlowOk l4')) (h5' : n5' ≤ 1048576) (r5' : Rd w lo5' hi5' 8 A5' n5' (cRule l5')) (b5' : Hid (cRuleOk l5')) (h6' : n6' ≤ 1048576) (r6' : Rd w lo6' hi6' 4 A6' n6' (cOp l6')) (b6' : Hid (cOpOk l6')) :
    Calls Try.prog 81 #[.agg #[.int .i64 p0, .int .i64 p1, .int .i64 p2, .slice A3 n3 c3, .slice A4 n4 c4, .slice A5 n5 c5, .slice A6 n6 c6, .int .i64 p7], .agg #[.int .i64 p0', .int .i64 p1', .int .i64 p2', .slice A3' n3' c3', .slice A4' n4' c4', .slice A5' n5' c5', .slice A6' n6' c6', .int .i64 p7']] w (Says (.bool (mEqPackage p0 p1 p2 l3 l4 l5 l6 p7 p0' p1' p2' l3' l4' l5' l6' p7')) w) := by
  have HL3 := Lib.hid (rd_len TGrant.len r3 (by decide))
  have HL3' := Lib.hid (rd_len TGrant.len r3' (by decide))
  have HL4 := Lib.hid (rd_len TFlow.len r4 (by decide))
  have HL4' := Lib.hid (rd_len TFlow.len r4' (by decide))
  have HL6 := Lib.hid (rd_len TOp.len r6 (by decide))
  have HL6' := Lib.hid (rd_len TOp.len r6' (by decide))
  have R3 := Lib.hid (r3)
  clear r3
  have R3' := Lib.hid (r3')
  clear r3'
  have R4 := Lib.hid (r4)
  clear r4
  have R4' := Lib.hid (r4')
  clear r4'
  have R5 := Lib.hid (r5)
  clear r5
  have R5' := Lib.hid (r5')
  clear r5'
  have R6 := Lib.hid (r6)
  clear r6
  have R6' := Lib.hid (r6')
  clear r6'
  have KA := Lib.hid (show BoxAt ((w.alloc (.cells #[.int .i64 p0, .int .i64 p1, .int .i64 p2, .slice A3 n3 c3, .slice A4 n4 c4, .slice A5 n5 c5, .slice A6 n6 c6, .int .i64 p7] 68)).alloc (.cells #[.int .i64 p0', .int .i64 p1', .int .i64 p2', .slice A3' n3' c3', .slice A4' n4' c4', .slice A5' n5' c5', .slice A6' n6' c6', .int .i64 p7'] 68)) w.heap.size 68 #[.int .i64 p0, .int .i64 p1, .int .i64 p2, .slice A3 n3 c3, .slice A4 n4 c4, .slice A5 n5 c5, .slice A6 n6 c6, .int .i64 p7] from (box_new w 68 #[.int .i64 p0, .int .i64 p1, .int .i64 p2, .slice A3 n3 c3, .slice A4 n4 c4, .slice A5 n5 c5, .slice A6 n6 c6, .int .i64 p7]).alloc_ _)
  have KC := Lib.hid (show BoxAt ((w.alloc (.cells #[.int .i64 p0, .int .i64 p1, .int .i64 p2, .slice A3 n3 c3, .slice A4 n4 c4, .slice A5 n5 c5, .slice A6 n6 c6, .int .i64 p7] 68)).alloc (.cells #[.int .i64 p0', .int .i64 p1', .int .i64 p2', .slice A3' n3' c3', .slice A4' n4' c4', .slice A5' n5' c5', .slice A6' n6' c6', .int .i64 p7'] 68)) (w.heap.size + 1) 68 #[.int .i64 p0', .int .i64 p1', .int .i64 p2', .slice A3' n3' c3', .slice A4' n4' c4', .slice A5' n5' c5', .slice A6' n6' c6', .int .i64 p7'] by simpa using box_new (w.alloc (.cells #[.int .i64 p0, .int .i64 p1, .int .i64 p2, .slice A3 n3 c3, .slice A4 n4 c4, .slice A5 n5 c5, .slice A6 n6 c6, .int .i64 p7] 68)) 68 #[.int .i64 p0', .int .i64 p1', .int .i64 p2', .slice A3' n3' c3', .slice A4' n4' c4', .slice A5' n5' c5', .slice A6' n6' c6', .int .i64 p7'])
  have HB := Lib.hid (show Below w.heap.size w ((w.alloc (.cells #[.int .i64 p0, .int .i64 p1, .int .i64 p2, .slice A3 n3 c3, .slice A4 n4 c4, .slice A5 n5 c5, .slice A6 n6 c6, .int .i64 p7] 68)).alloc (.cells #[.int .i64 p0', .int .i64 p1', .int .i64 p2', .slice A3' n3' c3', .slice A4' n4' c4', .slice A5' n5' c5', .slice A6' n6' c6', .int .i64 p7'] 68)) from ((Below.refl _ _).alloc (Nat.le_refl _) _).alloc (by simp) _)
  by_cases h_0 : (p0 == p0') = true
  · skip
    by_cases h_1 : (p1 == p1') = true
    · skip
      by_cases h_2 : (p2 == p2') = true
      · skip
        by_cases h_7 : (p7 == p7') = true
        · skip
          by_cases h_n3 : n3 = n3'
          · skip
            by_cases h_n4 : n4 = n4'
            · skip
              by_cases h_n6 : n6 = n6'
              · skip
                have q0 : (p0 != p0') = false := by simpa using h_0
                have q1 : (p1 != p1') = false := by simpa using h_1
                have q2 : (p2 != p2') = false := by simpa using h_2
                have q7 : (p7 != p7') = false := by simpa using h_7
                have g3 : ((n3 : Int) != n3') = false := by simp; omega
                have g4 : ((n4 : Int) != n4') = false := by simp; omega
                have g6 : ((n6 : Int) != n6') = false := by simp; omega
                have E0 := Lib.hid (h_0)
                have E1 := Lib.hid (h_1)
                have E2 := Lib.hid (h_2)
                have E7 := Lib.hid (h_7)
                have HN3 := Lib.hid h_n3
                have HN4 := Lib.hid h_n4
                have HN6 := Lib.hid h_n6
                clear h_0 h_1 h_2 h_7 h_n3 h_n4 h_n6
                replace R3 := Lib.hid (R3.out.new HB.out)
                replace R3' := Lib.hid (R3'.out.new HB.out)
                replace R4 := Lib.hid (R4.out.new HB.out)
                replace R4' := Lib.hid (R4'.out.new HB.out)
                replace R5 := Lib.hid (R5.out.new HB.out)
                replace R5' := Lib.hid (R5'.out.new HB.out)
                replace R6 := Lib.hid (R6.out.new HB.out)
                replace R6' := Lib.hid (R6'.out.new HB.out)
                go_enter Try.func81, Try.ntmps81
                go_wp2_with fail
                generalize ((w.alloc (.cells #[.int .i64 p0, .int .i64 p1, .int .i64 p2, .slice A3 n3 c3, .slice A4 n4 c4, .slice A5 n5 c5, .slice A6 n6 c6, .int .i64 p7] 68)).alloc (.cells #[.int .i64 p0', .int .i64 p1', .int .i64 p2', .slice A3' n3' c3', .slice A4' n4' c4', .slice A5' n5' c5', .slice A6' n6' c6', .int .i64 p7'] 68)) = W at KA KC HB R3 R3' R4 R4' R5 R5' R6 R6' ⊢
                go_loopw [5] (fun i wr => ∃ k : Nat, k ≤ n3 ∧ i = .int .i64 k ∧ l3.take k = l3'.take k ∧ ∃ d, wr = W.drewN d) (fun i _ => n3 - (intOf i).toNat)
                case atStart => exact ⟨0, Nat.zero_le _, rfl, rfl, by first | exact ⟨0, rfl⟩ | exact ⟨_, rfl⟩⟩
                case round =>
                  obtain ⟨k, hk, rfl, ht, d, rfl⟩ := hrel
                  have HT := Lib.hid ht
                  clear ht
                  by_cases hlt : k < n3
                  · have hlt' : k < n3' := by have := HN3.out; omega
                    obtain ⟨b, off, x, hA, _, _, hz, hc⟩ := rd_elem TGrant.len R3.out HL3.out hlt
                    obtain ⟨b', off', x', hA', _, _, hz', hc'⟩ := rd_elem TGrant.len R3'.out HL3'.out hlt'
                    subst hA
                    subst hA'
                    have c0 : W.cell? ⟨b, off + k * 7, none⟩ = _ := hc 0 _ rfl
                    have c1 := hc 1 _ rfl
                    have c2 := hc 2 _ rfl
                    have c3 := hc 3 _ rfl
                    have c4 := hc 4 _ rfl
                    have c5 := hc 5 _ rfl
                    have c6 := hc 6 _ rfl
                    have c0' : W.cell? ⟨b', off' + k * 7, none⟩ = _ := hc' 0 _ rfl
                    have c1' := hc' 1 _ rfl
                    have c2' := hc' 2 _ rfl
                    have c3' := hc' 3 _ rfl
                    have c4' := hc' 4 _ rfl
                    have c5' := hc' 5 _ rfl
                    have c6' := hc' 6 _ rfl
                    have HZ := Lib.hid hz
                    have HZ' := Lib.hid hz'
                    clear hz hz' hc hc'
                    have ea0 := KA.out.at_ (j := 0) rfl
                    have ec0 := KC.out.at_ (j := 0) rfl
                    have ea1 := KA.out.at_ (j := 1) rfl
                    have ec1 := KC.out.at_ (j := 1) rfl
                    have ea2 := KA.out.at_ (j := 2) rfl
                    have ec2 := KC.out.at_ (j := 2) rfl
                    have ea3 := KA.out.at_ (j := 3) rfl
                    have ec3 := KC.out.at_ (j := 3) rfl
                    have ea4 := KA.out.at_ (j := 4) rfl
                    have ec4 := KC.out.at_ (j := 4) rfl
                    have ea5 := KA.out.at_ (j := 5) rfl
                    have ec5 := KC.out.at_ (j := 5) rfl
                    have ea6 := KA.out.at_ (j := 6) rfl
                    have ec6 := KC.out.at_ (j := 6) rfl
                    have ea7 := KA.out.at_ (j := 7) rfl
                    have ec7 := KC.out.at_ (j := 7) rfl
                    by_cases e : x = x'
                    · have g1 : ∀ w, _ := fun w => (neq_Grant x x' w).trans (by rw [decide_eq_true e])
                      simp only [Bool.not_true] at g1
                      have HE := Lib.hid (takes_eq_step HT.out HZ.out HZ'.out e)
                      clear e
                      go_wp2_with fail
                      go_quiet (fail)
                      go_wp2_with fail
                      go_roundw
                      case rel => exact ⟨k + 1, by omega, by go_num, HE.out, _, by first | exact World.drewN_drewN _ _ _ | rfl⟩
                      case measure => simp [intOf]; omega
                    · have g1 : ∀ w, _ := fun w => (neq_Grant x x' w).trans (by rw [decide_eq_false e])
                      simp only [Bool.not_false] at g1
                      have HE := Lib.hid (show mEqPackage p0 p1 p2 l3 l4 l5 l6 p7 p0' p1' p2' l3' l4' l5' l6' p7' = false by
                        have h := nes_at HZ.out HZ'.out e
                        unfold mEqPackage; simp [show ¬ l3 = l3' from of_decide_eq_false h])
                      clear e
                      go_wp2_with fail
                      go_quiet (fail)
                      go_wp2_with fail
                      go_ret
                      exact ⟨by rw [HE.out]; rfl, by first | exact below_dN HB.out _ | exact below_dN (below_dN HB.out _) _⟩
                  · obtain rfl : k = n3 := by omega
                    have e3 := Lib.hid (show l3 = l3' by
                      have := HT.out
                      rw [List.take_of_length_le (by have := HL3.out; omega), List.take_of_length_le (by have := HL3'.out; have := HN3.out; omega)] at this
                      exact this)
                    have ea0 := KA.out.at_ (j := 0) rfl
                    have ec0 := KC.out.at_ (j := 0) rfl
                    have ea1 := KA.out.at_ (j := 1) rfl
                    have ec1 := KC.out.at_ (j := 1) rfl
                    have ea2 := KA.out.at_ (j := 2) rfl
                    have ec2 := KC.out.at_ (j := 2) rfl
                    have ea3 := KA.out.at_ (j := 3) rfl
                    have ec3 := KC.out.at_ (j := 3) rfl
                    have ea4 := KA.out.at_ (j := 4) rfl
                    have ec4 := KC.out.at_ (j := 4) rfl
                    have ea5 := KA.out.at_ (j := 5) rfl
                    have ec5 := KC.out.at_ (j := 5) rfl
                    have ea6 := KA.out.at_ (j := 6) rfl
                    have ec6 := KC.out.at_ (j := 6) rfl
                    have ea7 := KA.out.at_ (j := 7) rfl
                    have ec7 := KC.out.at_ (j := 7) rfl
                    go_wp2_with fail
                    clear ea0 ec0 ea1 ec1 ea2 ec2 ea3 ec3 ea4 ec4 ea5 ec5 ea6 ec6 ea7 ec7
                    go_loopw [6] (fun i wr => ∃ k : Nat, k ≤ n4 ∧ i = .int .i64 k ∧ l4.take k = l4'.take k ∧ ∃ d, wr = W.drewN d) (fun i _ => n4 - (intOf i).toNat)
                    case atStart => exact ⟨0, Nat.zero_le _, rfl, rfl, by first | exact ⟨0, rfl⟩ | exact ⟨_, rfl⟩⟩
                    case round =>
                      obtain ⟨k, hk, rfl, ht, d, rfl⟩ := hrel
                      have HT := Lib.hid ht
                      clear ht
                      by_cases hlt : k < n4
                      · have hlt' : k < n4' := by have := HN4.out; omega
                        obtain ⟨b, off, x, hA, _, _, hz, hc⟩ := rd_elem TFlow.len R4.out HL4.out hlt
                        obtain ⟨b', off', x', hA', _, _, hz', hc'⟩ := rd_elem TFlow.len R4'.out HL4'.out hlt'
                        subst hA
                        subst hA'
                        have c0 : W.cell? ⟨b, off + k * 3, none⟩ = _ := hc 0 _ rfl
                        have c1 := hc 1 _ rfl
                        have c2 := hc 2 _ rfl
                        have c0' : W.cell? ⟨b', off' + k * 3, none⟩ = _ := hc' 0 _ rfl
                        have c1' := hc' 1 _ rfl
                        have c2' := hc' 2 _ rfl
                        have HZ := Lib.hid hz
                        have HZ' := Lib.hid hz'
                        clear hz hz' hc hc'
                        have ea0 := KA.out.at_ (j := 0) rfl
                        have ec0 := KC.out.at_ (j := 0) rfl
                        have ea1 := KA.out.at_ (j := 1) rfl
                        have ec1 := KC.out.at_ (j := 1) rfl
                        have ea2 := KA.out.at_ (j := 2) rfl
                        have ec2 := KC.out.at_ (j := 2) rfl
                        have ea3 := KA.out.at_ (j := 3) rfl
                        have ec3 := KC.out.at_ (j := 3) rfl
                        have ea4 := KA.out.at_ (j := 4) rfl
                        have ec4 := KC.out.at_ (j := 4) rfl
                        have ea5 := KA.out.at_ (j := 5) rfl
                        have ec5 := KC.out.at_ (j := 5) rfl
                        have ea6 := KA.out.at_ (j := 6) rfl
                        have ec6 := KC.out.at_ (j := 6) rfl
                        have ea7 := KA.out.at_ (j := 7) rfl
                        have ec7 := KC.out.at_ (j := 7) rfl
                        by_cases e : x = x'
                        · have g1 : ∀ w, _ := fun w => (neq_Flow x x' w).trans (by rw [decide_eq_true e])
                          simp only [Bool.not_true] at g1
                          have HE := Lib.hid (takes_eq_step HT.out HZ.out HZ'.out e)
                          clear e
                          go_wp2_with fail
                          go_quiet (fail)
                          go_wp2_with fail
                          go_roundw
                          case rel => exact ⟨k + 1, by omega, by go_num, HE.out, _, by first | exact World.drewN_drewN _ _ _ | rfl⟩
                          case measure => simp [intOf]; omega
                        · have g1 : ∀ w, _ := fun w => (neq_Flow x x' w).trans (by rw [decide_eq_false e])
                          simp only [Bool.not_false] at g1
                          have HE := Lib.hid (show mEqPackage p0 p1 p2 l3 l4 l5 l6 p7 p0' p1' p2' l3' l4' l5' l6' p7' = false by
                            have h := nes_at HZ.out HZ'.out e
                            unfold mEqPackage; simp [show ¬ l4 = l4' from of_decide_eq_false h])
                          clear e
                          go_wp2_with fail
                          go_quiet (fail)
                          go_wp2_with fail
                          go_ret
                          exact ⟨by rw [HE.out]; rfl, by first | exact below_dN HB.out _ | exact below_dN (below_dN HB.out _) _⟩
                      · obtain rfl : k = n4 := by omega
                        have e4 := Lib.hid (show l4 = l4' by
                          have := HT.out
                          rw [List.take_of_length_le (by have := HL4.out; omega), List.take_of_length_le (by have := HL4'.out; have := HN4.out; omega)] at this
                          exact this)
                        have ea0 := KA.out.at_ (j := 0) rfl
                        have ec0 := KC.out.at_ (j := 0) rfl
                        have ea1 := KA.out.at_ (j := 1) rfl
                        have ec1 := KC.out.at_ (j := 1) rfl
                        have ea2 := KA.out.at_ (j := 2) rfl
                        have ec2 := KC.out.at_ (j := 2) rfl
                        have ea3 := KA.out.at_ (j := 3) rfl
                        have ec3 := KC.out.at_ (j := 3) rfl
                        have ea4 := KA.out.at_ (j := 4) rfl
                        have ec4 := KC.out.at_ (j := 4) rfl
                        have ea5 := KA.out.at_ (j := 5) rfl
                        have ec5 := KC.out.at_ (j := 5) rfl
                        have ea6 := KA.out.at_ (j := 6) rfl
                        have ec6 := KC.out.at_ (j := 6) rfl
                        have ea7 := KA.out.at_ (j := 7) rfl
                        have ec7 := KC.out.at_ (j := 7) rfl
                        go_wp2_with fail
                        clear ea0 ec0 ea1 ec1 ea2 ec2 ea3 ec3 ea4 ec4 ea5 ec5 ea6 ec6 ea7 ec7
                        go_loopw [7] (fun i wr => ∃ k : Nat, k ≤ n6 ∧ i = .int .i64 k ∧ l6.take k = l6'.take k ∧ ∃ d, wr = W.drewN d) (fun i _ => n6 - (intOf i).toNat)
                        case atStart => exact ⟨0, Nat.zero_le _, rfl, rfl, by first | exact ⟨0, rfl⟩ | exact ⟨_, rfl⟩⟩
                        case round =>
                          obtain ⟨k, hk, rfl, ht, d, rfl⟩ := hrel
                          have HT := Lib.hid ht
                          clear ht
                          by_cases hlt : k < n6
                          · have hlt' : k < n6' := by have := HN6.out; omega
                            obtain ⟨b, off, x, hA, _, _, hz, hc⟩ := rd_elem TOp.len R6.out HL6.out hlt
                            obtain ⟨b', off', x', hA', _, _, hz', hc'⟩ := rd_elem TOp.len R6'.out HL6'.out hlt'
                            subst hA
                            subst hA'
                            have c0 : W.cell? ⟨b, off + k * 4, none⟩ = _ := hc 0 _ rfl
                            have c1 := hc 1 _ rfl
                            have c2 := hc 2 _ rfl
                            have c3 := hc 3 _ rfl
                            have c0' : W.cell? ⟨b', off' + k * 4, none⟩ = _ := hc' 0 _ rfl
                            have c1' := hc' 1 _ rfl
                            have c2' := hc' 2 _ rfl
                            have c3' := hc' 3 _ rfl
                            have HZ := Lib.hid hz
                            have HZ' := Lib.hid hz'
                            clear hz hz' hc hc'
                            have ea0 := KA.out.at_ (j := 0) rfl
                            have ec0 := KC.out.at_ (j := 0) rfl
                            have ea1 := KA.out.at_ (j := 1) rfl
                            have ec1 := KC.out.at_ (j := 1) rfl
                            have ea2 := KA.out.at_ (j := 2) rfl
                            have ec2 := KC.out.at_ (j := 2) rfl
                            have ea3 := KA.out.at_ (j := 3) rfl
                            have ec3 := KC.out.at_ (j := 3) rfl
                            have ea4 := KA.out.at_ (j := 4) rfl
                            have ec4 := KC.out.at_ (j := 4) rfl
                            have ea5 := KA.out.at_ (j := 5) rfl
                            have ec5 := KC.out.at_ (j := 5) rfl
                            have ea6 := KA.out.at_ (j := 6) rfl
                            have ec6 := KC.out.at_ (j := 6) rfl
                            have ea7 := KA.out.at_ (j := 7) rfl
                            have ec7 := KC.out.at_ (j := 7) rfl
                            by_cases e : x = x'
                            · have g1 : ∀ w, _ := fun w => (neq_Op x x' w).trans (by rw [decide_eq_true e])
                              simp only [Bool.not_true] at g1
                              have HE := Lib.hid (takes_eq_step HT.out HZ.out HZ'.out e)
                              clear e
                              go_wp2_with fail
                              go_quiet (fail)
                              go_wp2_with fail
                              go_roundw
                              case rel => exact ⟨k + 1, by omega, by go_num, HE.out, _, by first | exact World.drewN_drewN _ _ _ | rfl⟩
                              case measure => simp [intOf]; omega
                            · have g1 : ∀ w, _ := fun w => (neq_Op x x' w).trans (by rw [decide_eq_false e])
                              simp only [Bool.not_false] at g1
                              have HE := Lib.hid (show mEqPackage p0 p1 p2 l3 l4 l5 l6 p7 p0' p1' p2' l3' l4' l5' l6' p7' = false by
                                have h := nes_at HZ.out HZ'.out e
                                unfold mEqPackage; simp [show ¬ l6 = l6' from of_decide_eq_false h])
                              clear e
                              go_wp2_with fail
                              go_quiet (fail)
                              go_wp2_with fail
                              go_ret
                              exact ⟨by rw [HE.out]; rfl, by first | exact below_dN HB.out _ | exact below_dN (below_dN HB.out _) _⟩
                          · obtain rfl : k = n6 := by omega
                            have e6 := Lib.hid (show l6 = l6' by
                              have := HT.out
                              rw [List.take_of_length_le (by have := HL6.out; omega), List.take_of_length_le (by have := HL6'.out; have := HN6.out; omega)] at this
                              exact this)
                            have ea0 := KA.out.at_ (j := 0) rfl
                            have ec0 := KC.out.at_ (j := 0) rfl
                            have ea1 := KA.out.at_ (j := 1) rfl
                            have ec1 := KC.out.at_ (j := 1) rfl
                            have ea2 := KA.out.at_ (j := 2) rfl
                            have ec2 := KC.out.at_ (j := 2) rfl
                            have ea3 := KA.out.at_ (j := 3) rfl
                            have ec3 := KC.out.at_ (j := 3) rfl
                            have ea4 := KA.out.at_ (j := 4) rfl
                            have ec4 := KC.out.at_ (j := 4) rfl
                            have ea5 := KA.out.at_ (j := 5) rfl
                            have ec5 := KC.out.at_ (j := 5) rfl
                            have ea6 := KA.out.at_ (j := 6) rfl
                            have ec6 := KC.out.at_ (j := 6) rfl
                            have ea7 := KA.out.at_ (j := 7) rfl
                            have ec7 := KC.out.at_ (j := 7) rfl
                            go_wp2_with fail
                            clear ea0 ec0 ea1 ec1 ea2 ec2 ea3 ec3 ea4 ec4 ea5 ec5 ea6 ec6 ea7 ec7
                            refine Calls.mono (spec_EqualRules l5 A5 n5 c5 lo5 hi5 l5' A5' n5' c5' lo5' hi5' _ h5 (R5.out.drewN _) b5 h5' (R5'.out.drewN _) b5') ?_
                            rintro e w1 ⟨rfl, hb⟩
                            have HB1 := Lib.hid (below_trans (below_dN HB.out _) hb (Nat.le_refl _))
                            clear hb
                            have HE := Lib.hid (show mEqPackage p0 p1 p2 l3 l4 l5 l6 p7 p0' p1' p2' l3' l4' l5' l6' p7' = decide (l5 = l5') by unfold mEqPackage; rw [E0.out, E1.out, E2.out, E7.out, decide_eq_true e3.out, decide_eq_true e4.out, decide_eq_true e6.out]; simp)
                            go_wp2_with fail
                            go_ret
                            exact ⟨by rw [HE.out]; rfl, HB1.out⟩
              · skip
                have HE := Lib.hid (show mEqPackage p0 p1 p2 l3 l4 l5 l6 p7 p0' p1' p2' l3' l4' l5' l6' p7' = false by unfold mEqPackage; have hne : ¬ l6 = l6' := by { rintro rfl; have := HL6.out; have := HL6'.out; omega }; simp [hne])
                have q0 : (p0 != p0') = false := by simpa using h_0
                have q1 : (p1 != p1') = false := by simpa using h_1
                have q2 : (p2 != p2') = false := by simpa using h_2
                have q7 : (p7 != p7') = false := by simpa using h_7
                have g3 : ((n3 : Int) != n3') = false := by simp; omega
                have g4 : ((n4 : Int) != n4') = false := by simp; omega
                have g6 : ((n6 : Int) != n6') = true := by simp; omega
                clear h_0 h_1 h_2 h_7 h_n3 h_n4 h_n6
                go_enter Try.func81, Try.ntmps81
                go_wp2_with fail
                go_ret
                exact ⟨by rw [HE.out]; rfl, HB.out⟩
            · skip
              have HE := Lib.hid (show mEqPackage p0 p1 p2 l3 l4 l5 l6 p7 p0' p1' p2' l3' l4' l5' l6' p7' = false by unfold mEqPackage; have hne : ¬ l4 = l4' := by { rintro rfl; have := HL4.out; have := HL4'.out; omega }; simp [hne])
              have q0 : (p0 != p0') = false := by simpa using h_0
              have q1 : (p1 != p1') = false := by simpa using h_1
              have q2 : (p2 != p2') = false := by simpa using h_2
              have q7 : (p7 != p7') = false := by simpa using h_7
              have g3 : ((n3 : Int) != n3') = false := by simp; omega
              have g4 : ((n4 : Int) != n4') = true := by simp; omega
              clear h_0 h_1 h_2 h_7 h_n3 h_n4
              go_enter Try.func81, Try.ntmps81
              go_wp2_with fail
              go_ret
              exact ⟨by rw [HE.out]; rfl, HB.out⟩
          · skip
            have HE := Lib.hid (show mEqPackage p0 p1 p2 l3 l4 l5 l6 p7 p0' p1' p2' l3' l4' l5' l6' p7' = false by unfold mEqPackage; have hne : ¬ l3 = l3' := by { rintro rfl; have := HL3.out; have := HL3'.out; omega }; simp [hne])
            have q0 : (p0 != p0') = false := by simpa using h_0
            have q1 : (p1 != p1') = false := by simpa using h_1
            have q2 : (p2 != p2') = false := by simpa using h_2
            have q7 : (p7 != p7') = false := by simpa using h_7
            have g3 : ((n3 : Int) != n3') = true := by simp; omega
            clear h_0 h_1 h_2 h_7 h_n3
            go_enter Try.func81, Try.ntmps81
            go_wp2_with fail
            go_ret
            exact ⟨by rw [HE.out]; rfl, HB.out⟩
        · skip
          have h_7 : (p7 == p7') = false := by simpa using h_7
          have HE := Lib.hid (show mEqPackage p0 p1 p2 l3 l4 l5 l6 p7 p0' p1' p2' l3' l4' l5' l6' p7' = false by unfold mEqPackage; simp [h_7])
          have q0 : (p0 != p0') = false := by simpa using h_0
          have q1 : (p1 != p1') = false := by simpa using h_1
          have q2 : (p2 != p2') = false := by simpa using h_2
          have q7 : (p7 != p7') = true := by simpa using h_7
          clear h_0 h_1 h_2 h_7
          go_enter Try.func81, Try.ntmps81
          go_wp2_with fail
          go_ret
          exact ⟨by rw [HE.out]; rfl, HB.out⟩
      · skip
        have h_2 : (p2 == p2') = false := by simpa using h_2
        have HE := Lib.hid (show mEqPackage p0 p1 p2 l3 l4 l5 l6 p7 p0' p1' p2' l3' l4' l5' l6' p7' = false by unfold mEqPackage; simp [h_2])
        have q0 : (p0 != p0') = false := by simpa using h_0
        have q1 : (p1 != p1') = false := by simpa using h_1
        have q2 : (p2 != p2') = true := by simpa using h_2
        clear h_0 h_1 h_2
        go_enter Try.func81, Try.ntmps81
        go_wp2_with fail
        go_ret
        exact ⟨by rw [HE.out]; rfl, HB.out⟩
    · skip
      have h_1 : (p1 == p1') = false := by simpa using h_1
      have HE := Lib.hid (show mEqPackage p0 p1 p2 l3 l4 l5 l6 p7 p0' p1' p2' l3' l4' l5' l6' p7' = false by unfold mEqPackage; simp [h_1])
      have q0 : (p0 != p0') = false := by simpa using h_0
      have q1 : (p1 != p1') = true := by simpa using h_1
      clear h_0 h_1
      go_enter Try.func81, Try.ntmps81
      go_wp2_with fail
      go_ret
      exact ⟨by rw [HE.out]; rfl, HB.out⟩
  · skip
    have h_0 : (p0 == p0') = false := by simpa using h_0
    have HE := Lib.hid (show mEqPackage p0 p1 p2 l3 l4 l5 l6 p7 p0' p1' p2' l3' l4' l5' l6' p7' = false by unfold mEqPackage; simp [h_0])
    have q0 : (p0 != p0') = true := by simpa using h_0
    clear h_0
    go_enter Try.func81, Try.ntmps81
    go_wp2_with fail
    go_ret
    exact ⟨by rw [HE.out]; rfl, HB.out⟩

end Go.Proofs.Ytfhoemgpilpapaa
