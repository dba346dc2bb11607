/- EqualTabs, of the program and of the model, answer whether all fields are equal. -/
import Derived.Test.YtfhoemgpilpapaaRTab
import Derived.Test.YtfhoemgpilpapaaEEdit
import Derived.Test.YtfhoemgpilpapaaEqDoc
import Derived.Test.YtfhoemgpilpapaaEqI
namespace Go.Proofs.Ytfhoemgpilpapaa
open Go Go.ChangeShapes Go.WideShapes Go.ChangeAt Go.RowKit Go.Lib
set_option linter.unusedVariables false
set_option linter.unusedSimpArgs false
set_option maxRecDepth 100000
set_option maxHeartbeats 8000000
def mEqTab (s0 : TSite) (l1 : List TNode) (l2 : List TEdit) (l3 : List Int) (p4 : Int) (s0' : TSite) (l1' : List TNode) (l2' : List TEdit) (l3' : List Int) (p4' : Int) : Bool := decide (s0 = s0') && (p4 == p4') && decide (l1 = l1') && decide (l2 = l2') && decide (l3 = l3')
theorem sleq_Edit (l l' : List TEdit) (A A' : Option Addr) (n n' c c' lo hi lo' hi' : Nat) (w : World) (hn : n ≤ 17592186044416) (hn' : n' ≤ 17592186044416) (hr : Rd w lo hi 6 A n (cEdit l)) (hr' : Rd w lo' hi' 6 A' n' (cEdit l')) :
    Calls Try.prog 141 #[.slice A n c, .slice A' n' c'] w (Quiet (.bool (decide (l = l'))) w) := by
  have HL := Lib.hid (rd_len TEdit.len hr (by decide))
  have HL' := Lib.hid (rd_len TEdit.len hr' (by decide))
  have HR := Lib.hid hr
  have HR' := Lib.hid hr'
  clear hr hr'
  by_cases hnn : n = n'
  · have g0 : ((n : Int) != n') = false := by simp; omega
    have HN := Lib.hid hnn
    clear hnn
    go_enter Try.func141, Try.ntmps141
    go_wp2_with fail
    go_loopw [13] (fun i wr => ∃ k : Nat, k ≤ n ∧ i = .int .i64 k ∧ l.take k = l'.take k ∧ ∃ d, wr = w.drewN d) (fun i _ => n - (intOf i).toNat)
    case atStart => exact ⟨0, Nat.zero_le _, rfl, rfl, 0, rfl⟩
    case round =>
      obtain ⟨k, hk, rfl, ht, d, rfl⟩ := hrel
      have HT := Lib.hid ht
      clear ht
      by_cases hlt : k < n
      · have hlt' : k < n' := by have := HN.out; omega
        obtain ⟨b, off, x, rfl, _, _, hz, hc⟩ := rd_elem TEdit.len HR.out HL.out hlt
        obtain ⟨b', off', x', rfl, _, _, hz', hc'⟩ := rd_elem TEdit.len HR'.out HL'.out hlt'
        have c0 : w.cell? ⟨b, off + k * 6, none⟩ = _ := hc 0 _ rfl
        have c1 := hc 1 _ rfl
        have c2 := hc 2 _ rfl
        have c3 := hc 3 _ rfl
        have c4 := hc 4 _ rfl
        have c5 := hc 5 _ rfl
        have c0' : w.cell? ⟨b', off' + k * 6, none⟩ = _ := hc' 0 _ rfl
        have c1' := hc' 1 _ rfl
        have c2' := hc' 2 _ rfl
        have c3' := hc' 3 _ rfl
        have c4' := hc' 4 _ rfl
        have c5' := hc' 5 _ rfl
        have HZ := Lib.hid hz
        have HZ' := Lib.hid hz'
        clear hz hz' hc hc'
        by_cases e : x = x'
        · have g1 : ∀ w, _ := fun w => (neq_Edit x x' w).trans (by rw [decide_eq_true e])
          simp only [Bool.not_true] at g1
          have HE := Lib.hid (takes_eq_step HT.out HZ.out HZ'.out e)
          clear e
          go_wp2_with fail
          go_quiet (fail)
          go_wp2_with fail
          go_roundw
          case rel => exact ⟨k + 1, by omega, by go_num, HE.out, _, by first | exact World.drewN_drewN _ _ _ | rfl⟩
          case measure => simp [intOf]; omega
        · have g1 : ∀ w, _ := fun w => (neq_Edit x x' w).trans (by rw [decide_eq_false e])
          simp only [Bool.not_false] at g1
          have HE := Lib.hid (nes_at HZ.out HZ'.out e)
          clear e
          go_wp2_with fail
          go_quiet (fail)
          go_wp2_with fail
          go_ret
          exact ⟨by rw [HE.out]; rfl, _, by first | exact World.drewN_drewN _ _ _ | rfl⟩
      · obtain rfl : k = n := by omega
        have HE := Lib.hid (show decide (l = l') = true by
          rw [decide_eq_true_iff]
          have := HT.out
          rw [List.take_of_length_le (by have := HL.out; omega), List.take_of_length_le (by have := HL'.out; have := HN.out; omega)] at this
          exact this)
        go_wp2_with fail
        go_ret
        exact ⟨by rw [HE.out]; rfl, _, by first | exact World.drewN_drewN _ _ _ | rfl⟩
  · have g0 : ((n : Int) != n') = true := by simp; omega
    have HE := Lib.hid (show decide (l = l') = false by
      rw [decide_eq_false_iff_not]
      rintro rfl
      have := HL.out; have := HL'.out; omega)
    clear hnn
    go_enter Try.func141, Try.ntmps141
    go_wp2_with fail
    go_ret
    exact ⟨by rw [HE.out]; rfl, 0, rfl⟩

theorem speq_Edit (l l' : List TEdit) (A A' : Option Addr) (n n' c c' lo hi lo' hi' : Nat) (w : World) (hn : n ≤ 17592186044416) (hn' : n' ≤ 17592186044416) (hr : Rd w lo hi 6 A n (cEdit l)) (hr' : Rd w lo' hi' 6 A' n' (cEdit l')) :
    Calls Try.prog 138 #[.slice A n c, .slice A' n' c'] w (Quiet (.bool (decide (l = l'))) w) := by
  have HL := Lib.hid (rd_len TEdit.len hr (by decide))
  have HL' := Lib.hid (rd_len TEdit.len hr' (by decide))
  have HR := Lib.hid hr
  have HR' := Lib.hid hr'
  clear hr hr'
  by_cases hnn : n = n'
  · have g0 : ((n : Int) != n') = false := by simp; omega
    have HN := Lib.hid hnn
    clear hnn
    go_enter Try.func138, Try.ntmps138
    go_wp2_with fail
    go_loopw [5] (fun i wr => ∃ k : Nat, k ≤ n ∧ i = .int .i64 k ∧ l.take k = l'.take k ∧ ∃ d, wr = w.drewN d) (fun i _ => n - (intOf i).toNat)
    case atStart => exact ⟨0, Nat.zero_le _, rfl, rfl, 0, rfl⟩
    case round =>
      obtain ⟨k, hk, rfl, ht, d, rfl⟩ := hrel
      have HT := Lib.hid ht
      clear ht
      by_cases hlt : k < n
      · have hlt' : k < n' := by have := HN.out; omega
        obtain ⟨b, off, x, rfl, _, _, hz, hc⟩ := rd_elem TEdit.len HR.out HL.out hlt
        obtain ⟨b', off', x', rfl, _, _, hz', hc'⟩ := rd_elem TEdit.len HR'.out HL'.out hlt'
        have c0 : w.cell? ⟨b, off + k * 6, none⟩ = _ := hc 0 _ rfl
        have c1 := hc 1 _ rfl
        have c2 := hc 2 _ rfl
        have c3 := hc 3 _ rfl
        have c4 := hc 4 _ rfl
        have c5 := hc 5 _ rfl
        have c0' : w.cell? ⟨b', off' + k * 6, none⟩ = _ := hc' 0 _ rfl
        have c1' := hc' 1 _ rfl
        have c2' := hc' 2 _ rfl
        have c3' := hc' 3 _ rfl
        have c4' := hc' 4 _ rfl
        have c5' := hc' 5 _ rfl
        have HZ := Lib.hid hz
        have HZ' := Lib.hid hz'
        clear hz hz' hc hc'
        by_cases e : x = x'
        · have g1 : ∀ w, _ := fun w => (neq_Edit x x' w).trans (by rw [decide_eq_true e])
          simp only [Bool.not_true] at g1
          have HE := Lib.hid (takes_eq_step HT.out HZ.out HZ'.out e)
          clear e
          go_wp2_with fail
          go_quiet (fail)
          go_wp2_with fail
          go_roundw
          case rel => exact ⟨k + 1, by omega, by go_num, HE.out, _, by first | exact World.drewN_drewN _ _ _ | rfl⟩
          case measure => simp [intOf]; omega
        · have g1 : ∀ w, _ := fun w => (neq_Edit x x' w).trans (by rw [decide_eq_false e])
          simp only [Bool.not_false] at g1
          have HE := Lib.hid (nes_at HZ.out HZ'.out e)
          clear e
          go_wp2_with fail
          go_quiet (fail)
          go_wp2_with fail
          go_ret
          exact ⟨by rw [HE.out]; rfl, _, by first | exact World.drewN_drewN _ _ _ | rfl⟩
      · obtain rfl : k = n := by omega
        have HE := Lib.hid (show decide (l = l') = true by
          rw [decide_eq_true_iff]
          have := HT.out
          rw [List.take_of_length_le (by have := HL.out; omega), List.take_of_length_le (by have := HL'.out; have := HN.out; omega)] at this
          exact this)
        go_wp2_with fail
        go_ret
        exact ⟨by rw [HE.out]; rfl, _, by first | exact World.drewN_drewN _ _ _ | rfl⟩
  · have g0 : ((n : Int) != n') = true := by simp; omega
    have HE := Lib.hid (show decide (l = l') = false by
      rw [decide_eq_false_iff_not]
      rintro rfl
      have := HL.out; have := HL'.out; omega)
    clear hnn
    go_enter Try.func138, Try.ntmps138
    go_wp2_with fail
    go_ret
    exact ⟨by rw [HE.out]; rfl, 0, rfl⟩


theorem impl_EqualTabs (s0 : TSite) (l1 : List TNode) (A1 : Option Addr) (n1 c1 lo1 hi1 : Nat) (l2 : List TEdit) (A2 : Option Addr) (n2 c2 lo2 hi2 : Nat) (l3 : List Int) (A3 : Option Addr) (n3 c3 lo3 hi3 : Nat) (p4 : Int) (s0' : TSite) (l1' : List TNode) (A1' : Option Addr) (n1' c1' lo1' hi1' : Nat) (l2' : List TEdit) (A2' : Option Addr) (n2' c2' lo2' hi2' : Nat) (l3' : List Int) (A3' : Option Addr) (n3' c3' lo3' hi3' : Nat) (p4' : Int) (w : World) (h1 : n1 ≤ 1048576) (r1 : Rd w lo1 hi1 5 A1 n1 (cNode l1)) (b1 : Hid (cNodeOk l1)) (h2 : n2 ≤ 1048576) (r2 : Rd w lo2 hi2 6 A2 n2 (cEdit l2)) (b2 : Hid (cEditOk l2)) (h3 : n3 ≤ 1048576) (r3 : Rd w lo3 hi3 1 A3 n3 (i64s l3)) (b3 : Hid (I64s l3)) (h1' : n1' ≤ 1048576) (r1' : Rd w lo1' hi1' 5 A1' n1' (cNode l1')) (b1' : Hid (cNodeOk l1')) (h2' : n2' ≤ 1048576) (r2' : Rd w lo2' hi2' 6 A2' n2' (cEdit l2')) (b2' : Hid (cEditOk l2')) (h3' : n3' ≤ 1048576) (r3' : Rd w lo3' hi3' 1 A3' n3' (i64s l3')) (b3' : Hid (I64s l3')) :
    Calls Try.prog 86 #[.agg #[.int .i64 s0.f0, .int .i64 s0.f1, .slice A1 n1 c1, .slice A2 n2 c2, .slice A3 n3 c3, .int .i64 p4], .agg #[.int .i64 s0'.f0, .int .i64 s0'.f1, .slice A1' n1' c1', .slice A2' n2' c2', .slice A3' n3' c3', .int .i64 p4']] w (Says (.bool (mEqTab s0 l1 l2 l3 p4 s0' l1' l2' l3' p4')) w) := by
  have R1 := Lib.hid (r1)
  clear r1
  have R1' := Lib.hid (r1')
  clear r1'
  have R2 := Lib.hid (r2)
  clear r2
  have R2' := Lib.hid (r2')
  clear r2'
  have R3 := Lib.hid (r3)
  clear r3
  have R3' := Lib.hid (r3')
  clear r3'
  have KA := Lib.hid (show BoxAt ((w.alloc (.cells #[.int .i64 s0.f0, .int .i64 s0.f1, .slice A1 n1 c1, .slice A2 n2 c2, .slice A3 n3 c3, .int .i64 p4] 101)).alloc (.cells #[.int .i64 s0'.f0, .int .i64 s0'.f1, .slice A1' n1' c1', .slice A2' n2' c2', .slice A3' n3' c3', .int .i64 p4'] 101)) w.heap.size 101 #[.int .i64 s0.f0, .int .i64 s0.f1, .slice A1 n1 c1, .slice A2 n2 c2, .slice A3 n3 c3, .int .i64 p4] from (box_new w 101 #[.int .i64 s0.f0, .int .i64 s0.f1, .slice A1 n1 c1, .slice A2 n2 c2, .slice A3 n3 c3, .int .i64 p4]).alloc_ _)
  have KC := Lib.hid (show BoxAt ((w.alloc (.cells #[.int .i64 s0.f0, .int .i64 s0.f1, .slice A1 n1 c1, .slice A2 n2 c2, .slice A3 n3 c3, .int .i64 p4] 101)).alloc (.cells #[.int .i64 s0'.f0, .int .i64 s0'.f1, .slice A1' n1' c1', .slice A2' n2' c2', .slice A3' n3' c3', .int .i64 p4'] 101)) (w.heap.size + 1) 101 #[.int .i64 s0'.f0, .int .i64 s0'.f1, .slice A1' n1' c1', .slice A2' n2' c2', .slice A3' n3' c3', .int .i64 p4'] by simpa using box_new (w.alloc (.cells #[.int .i64 s0.f0, .int .i64 s0.f1, .slice A1 n1 c1, .slice A2 n2 c2, .slice A3 n3 c3, .int .i64 p4] 101)) 101 #[.int .i64 s0'.f0, .int .i64 s0'.f1, .slice A1' n1' c1', .slice A2' n2' c2', .slice A3' n3' c3', .int .i64 p4'])
  have HB := Lib.hid (show Below w.heap.size w ((w.alloc (.cells #[.int .i64 s0.f0, .int .i64 s0.f1, .slice A1 n1 c1, .slice A2 n2 c2, .slice A3 n3 c3, .int .i64 p4] 101)).alloc (.cells #[.int .i64 s0'.f0, .int .i64 s0'.f1, .slice A1' n1' c1', .slice A2' n2' c2', .slice A3' n3' c3', .int .i64 p4'] 101)) from ((Below.refl _ _).alloc (Nat.le_refl _) _).alloc (by simp) _)
  by_cases e0 : s0 = s0'
  · skip
    by_cases h_4 : (p4 == p4') = true
    · skip
      by_cases e1 : l1 = l1'
      · skip
        by_cases e2 : l2 = l2'
        · skip
          by_cases e3 : l3 = l3'
          · skip
            have HE := Lib.hid (show mEqTab s0 l1 l2 l3 p4 s0' l1' l2' l3' p4' = true by unfold mEqTab; simp [e0, h_4, e1, e2, e3])
            have g0 : ∀ w, _ := fun w => (eql_Site s0 s0' w).trans (by rw [decide_eq_true e0])
            have D1 := Lib.hid (show decide (l1 = l1') = true by rw [decide_eq_true e1])
            have D2 := Lib.hid (show decide (l2 = l2') = true by rw [decide_eq_true e2])
            have D3 := Lib.hid (show decide (l3 = l3') = true by rw [decide_eq_true e3])
            clear e0 e1 e2 e3
            go_enter Try.func86, Try.ntmps86
            go_wp2_with fail
            refine Calls.mono (impl_EqualDocuments l1 A1 n1 c1 lo1 hi1 l1' A1' n1' c1' lo1' hi1' _ h1 (R1.out.new HB.out) b1 h1' (R1'.out.new HB.out) b1') ?_
            rw [D1.out]
            rintro e w1 ⟨rfl, hb⟩
            replace KA := Lib.hid (KA.out.new hb)
            replace KC := Lib.hid (KC.out.new hb)
            replace HB := Lib.hid (below_trans HB.out hb (Nat.le_refl _))
            clear hb
            have ea0 := KA.out.at_ (j := 0) rfl
            have ec0 := KC.out.at_ (j := 0) rfl
            have ea1 := KA.out.at_ (j := 1) rfl
            have ec1 := KC.out.at_ (j := 1) rfl
            have ea2 := KA.out.at_ (j := 2) rfl
            have ec2 := KC.out.at_ (j := 2) rfl
            have ea3 := KA.out.at_ (j := 3) rfl
            have ec3 := KC.out.at_ (j := 3) rfl
            have ea4 := KA.out.at_ (j := 4) rfl
            have ec4 := KC.out.at_ (j := 4) rfl
            have ea5 := KA.out.at_ (j := 5) rfl
            have ec5 := KC.out.at_ (j := 5) rfl
            go_wp2_with fail
            clear ea0 ec0 ea1 ec1 ea2 ec2 ea3 ec3 ea4 ec4 ea5 ec5
            refine Calls.mono (sleq_Edit l2 l2' A2 A2' n2 n2' c2 c2' lo2 hi2 lo2' hi2' _ (by omega) (by omega) (R2.out.new HB.out) (R2'.out.new HB.out)) ?_
            rw [D2.out]
            rintro e w2 hq
            obtain ⟨rfl, hb⟩ := hq.says
            replace KA := Lib.hid (KA.out.new hb)
            replace KC := Lib.hid (KC.out.new hb)
            replace HB := Lib.hid (below_trans HB.out hb (Nat.le_refl _))
            clear hb
            have ea0 := KA.out.at_ (j := 0) rfl
            have ec0 := KC.out.at_ (j := 0) rfl
            have ea1 := KA.out.at_ (j := 1) rfl
            have ec1 := KC.out.at_ (j := 1) rfl
            have ea2 := KA.out.at_ (j := 2) rfl
            have ec2 := KC.out.at_ (j := 2) rfl
            have ea3 := KA.out.at_ (j := 3) rfl
            have ec3 := KC.out.at_ (j := 3) rfl
            have ea4 := KA.out.at_ (j := 4) rfl
            have ec4 := KC.out.at_ (j := 4) rfl
            have ea5 := KA.out.at_ (j := 5) rfl
            have ec5 := KC.out.at_ (j := 5) rfl
            go_wp2_with fail
            clear ea0 ec0 ea1 ec1 ea2 ec2 ea3 ec3 ea4 ec4 ea5 ec5
            refine Calls.mono (impl_EqualInts l3 A3 n3 c3 lo3 hi3 l3' A3' n3' c3' lo3' hi3' _ h3 (R3.out.new HB.out) b3 h3' (R3'.out.new HB.out) b3') ?_
            rw [D3.out]
            rintro e w3 ⟨rfl, hb⟩
            replace KA := Lib.hid (KA.out.new hb)
            replace KC := Lib.hid (KC.out.new hb)
            replace HB := Lib.hid (below_trans HB.out hb (Nat.le_refl _))
            clear hb
            go_wp2_with fail
            go_ret
            exact ⟨by rw [HE.out]; rfl, HB.out⟩
          · skip
            have HE := Lib.hid (show mEqTab s0 l1 l2 l3 p4 s0' l1' l2' l3' p4' = false by unfold mEqTab; simp [e0, h_4, e1, e2, e3])
            have g0 : ∀ w, _ := fun w => (eql_Site s0 s0' w).trans (by rw [decide_eq_true e0])
            have D1 := Lib.hid (show decide (l1 = l1') = true by rw [decide_eq_true e1])
            have D2 := Lib.hid (show decide (l2 = l2') = true by rw [decide_eq_true e2])
            have D3 := Lib.hid (show decide (l3 = l3') = false by rw [decide_eq_false e3])
            clear e0 e1 e2 e3
            go_enter Try.func86, Try.ntmps86
            go_wp2_with fail
            refine Calls.mono (impl_EqualDocuments l1 A1 n1 c1 lo1 hi1 l1' A1' n1' c1' lo1' hi1' _ h1 (R1.out.new HB.out) b1 h1' (R1'.out.new HB.out) b1') ?_
            rw [D1.out]
            rintro e w1 ⟨rfl, hb⟩
            replace KA := Lib.hid (KA.out.new hb)
            replace KC := Lib.hid (KC.out.new hb)
            replace HB := Lib.hid (below_trans HB.out hb (Nat.le_refl _))
            clear hb
            have ea0 := KA.out.at_ (j := 0) rfl
            have ec0 := KC.out.at_ (j := 0) rfl
            have ea1 := KA.out.at_ (j := 1) rfl
            have ec1 := KC.out.at_ (j := 1) rfl
            have ea2 := KA.out.at_ (j := 2) rfl
            have ec2 := KC.out.at_ (j := 2) rfl
            have ea3 := KA.out.at_ (j := 3) rfl
            have ec3 := KC.out.at_ (j := 3) rfl
            have ea4 := KA.out.at_ (j := 4) rfl
            have ec4 := KC.out.at_ (j := 4) rfl
            have ea5 := KA.out.at_ (j := 5) rfl
            have ec5 := KC.out.at_ (j := 5) rfl
            go_wp2_with fail
            clear ea0 ec0 ea1 ec1 ea2 ec2 ea3 ec3 ea4 ec4 ea5 ec5
            refine Calls.mono (sleq_Edit l2 l2' A2 A2' n2 n2' c2 c2' lo2 hi2 lo2' hi2' _ (by omega) (by omega) (R2.out.new HB.out) (R2'.out.new HB.out)) ?_
            rw [D2.out]
            rintro e w2 hq
            obtain ⟨rfl, hb⟩ := hq.says
            replace KA := Lib.hid (KA.out.new hb)
            replace KC := Lib.hid (KC.out.new hb)
            replace HB := Lib.hid (below_trans HB.out hb (Nat.le_refl _))
            clear hb
            have ea0 := KA.out.at_ (j := 0) rfl
            have ec0 := KC.out.at_ (j := 0) rfl
            have ea1 := KA.out.at_ (j := 1) rfl
            have ec1 := KC.out.at_ (j := 1) rfl
            have ea2 := KA.out.at_ (j := 2) rfl
            have ec2 := KC.out.at_ (j := 2) rfl
            have ea3 := KA.out.at_ (j := 3) rfl
            have ec3 := KC.out.at_ (j := 3) rfl
            have ea4 := KA.out.at_ (j := 4) rfl
            have ec4 := KC.out.at_ (j := 4) rfl
            have ea5 := KA.out.at_ (j := 5) rfl
            have ec5 := KC.out.at_ (j := 5) rfl
            go_wp2_with fail
            clear ea0 ec0 ea1 ec1 ea2 ec2 ea3 ec3 ea4 ec4 ea5 ec5
            refine Calls.mono (impl_EqualInts l3 A3 n3 c3 lo3 hi3 l3' A3' n3' c3' lo3' hi3' _ h3 (R3.out.new HB.out) b3 h3' (R3'.out.new HB.out) b3') ?_
            rw [D3.out]
            rintro e w3 ⟨rfl, hb⟩
            replace KA := Lib.hid (KA.out.new hb)
            replace KC := Lib.hid (KC.out.new hb)
            replace HB := Lib.hid (below_trans HB.out hb (Nat.le_refl _))
            clear hb
            go_wp2_with fail
            go_ret
            exact ⟨by rw [HE.out]; rfl, HB.out⟩
        · skip
          have HE := Lib.hid (show mEqTab s0 l1 l2 l3 p4 s0' l1' l2' l3' p4' = false by unfold mEqTab; simp [e0, h_4, e1, e2])
          have g0 : ∀ w, _ := fun w => (eql_Site s0 s0' w).trans (by rw [decide_eq_true e0])
          have D1 := Lib.hid (show decide (l1 = l1') = true by rw [decide_eq_true e1])
          have D2 := Lib.hid (show decide (l2 = l2') = false by rw [decide_eq_false e2])
          clear e0 e1 e2
          go_enter Try.func86, Try.ntmps86
          go_wp2_with fail
          refine Calls.mono (impl_EqualDocuments l1 A1 n1 c1 lo1 hi1 l1' A1' n1' c1' lo1' hi1' _ h1 (R1.out.new HB.out) b1 h1' (R1'.out.new HB.out) b1') ?_
          rw [D1.out]
          rintro e w1 ⟨rfl, hb⟩
          replace KA := Lib.hid (KA.out.new hb)
          replace KC := Lib.hid (KC.out.new hb)
          replace HB := Lib.hid (below_trans HB.out hb (Nat.le_refl _))
          clear hb
          have ea0 := KA.out.at_ (j := 0) rfl
          have ec0 := KC.out.at_ (j := 0) rfl
          have ea1 := KA.out.at_ (j := 1) rfl
          have ec1 := KC.out.at_ (j := 1) rfl
          have ea2 := KA.out.at_ (j := 2) rfl
          have ec2 := KC.out.at_ (j := 2) rfl
          have ea3 := KA.out.at_ (j := 3) rfl
          have ec3 := KC.out.at_ (j := 3) rfl
          have ea4 := KA.out.at_ (j := 4) rfl
          have ec4 := KC.out.at_ (j := 4) rfl
          have ea5 := KA.out.at_ (j := 5) rfl
          have ec5 := KC.out.at_ (j := 5) rfl
          go_wp2_with fail
          clear ea0 ec0 ea1 ec1 ea2 ec2 ea3 ec3 ea4 ec4 ea5 ec5
          refine Calls.mono (sleq_Edit l2 l2' A2 A2' n2 n2' c2 c2' lo2 hi2 lo2' hi2' _ (by omega) (by omega) (R2.out.new HB.out) (R2'.out.new HB.out)) ?_
          rw [D2.out]
          rintro e w2 hq
          obtain ⟨rfl, hb⟩ := hq.says
          replace KA := Lib.hid (KA.out.new hb)
          replace KC := Lib.hid (KC.out.new hb)
          replace HB := Lib.hid (below_trans HB.out hb (Nat.le_refl _))
          clear hb
          go_wp2_with fail
          go_ret
          exact ⟨by rw [HE.out]; rfl, HB.out⟩
      · skip
        have HE := Lib.hid (show mEqTab s0 l1 l2 l3 p4 s0' l1' l2' l3' p4' = false by unfold mEqTab; simp [e0, h_4, e1])
        have g0 : ∀ w, _ := fun w => (eql_Site s0 s0' w).trans (by rw [decide_eq_true e0])
        have D1 := Lib.hid (show decide (l1 = l1') = false by rw [decide_eq_false e1])
        clear e0 e1
        go_enter Try.func86, Try.ntmps86
        go_wp2_with fail
        refine Calls.mono (impl_EqualDocuments l1 A1 n1 c1 lo1 hi1 l1' A1' n1' c1' lo1' hi1' _ h1 (R1.out.new HB.out) b1 h1' (R1'.out.new HB.out) b1') ?_
        rw [D1.out]
        rintro e w1 ⟨rfl, hb⟩
        replace KA := Lib.hid (KA.out.new hb)
        replace KC := Lib.hid (KC.out.new hb)
        replace HB := Lib.hid (below_trans HB.out hb (Nat.le_refl _))
        clear hb
        go_wp2_with fail
        go_ret
        exact ⟨by rw [HE.out]; rfl, HB.out⟩
    · skip
      have h_4 : (p4 == p4') = false := by simpa using h_4
      have HE := Lib.hid (show mEqTab s0 l1 l2 l3 p4 s0' l1' l2' l3' p4' = false by unfold mEqTab; simp [e0, h_4])
      have g0 : ∀ w, _ := fun w => (eql_Site s0 s0' w).trans (by rw [decide_eq_true e0])
      clear e0
      go_enter Try.func86, Try.ntmps86
      go_wp2_with fail
      go_ret
      exact ⟨by rw [HE.out]; rfl, HB.out⟩
  · skip
    have HE := Lib.hid (show mEqTab s0 l1 l2 l3 p4 s0' l1' l2' l3' p4' = false by unfold mEqTab; simp [e0])
    have g0 : ∀ w, _ := fun w => (eql_Site s0 s0' w).trans (by rw [decide_eq_false e0])
    clear e0
    go_enter Try.func86, Try.ntmps86
    go_wp2_with fail
    go_ret
    exact ⟨by rw [HE.out]; rfl, HB.out⟩

theorem spec_EqualTabs (s0 : TSite) (l1 : List TNode) (A1 : Option Addr) (n1 c1 lo1 hi1 : Nat) (l2 : List TEdit) (A2 : Option Addr) (n2 c2 lo2 hi2 : Nat) (l3 : List Int) (A3 : Option Addr) (n3 c3 lo3 hi3 : Nat) (p4 : Int) (s0' : TSite) (l1' : List TNode) (A1' : Option Addr) (n1' c1' lo1' hi1' : Nat) (l2' : List TEdit) (A2' : Option Addr) (n2' c2' lo2' hi2' : Nat) (l3' : List Int) (A3' : Option Addr) (n3' c3' lo3' hi3' : Nat) (p4' : Int) (w : World) (h1 : n1 ≤ 1048576) (r1 : Rd w lo1 hi1 5 A1 n1 (cNode l1)) (b1 : Hid (cNodeOk l1)) (h2 : n2 ≤ 1048576) (r2 : Rd w lo2 hi2 6 A2 n2 (cEdit l2)) (b2 : Hid (cEditOk l2)) (h3 : n3 ≤ 1048576) (r3 : Rd w lo3 hi3 1 A3 n3 (i64s l3)) (b3 : Hid (I64s l3)) (h1' : n1' ≤ 1048576) (r1' : Rd w lo1' hi1' 5 A1' n1' (cNode l1')) (b1' : Hid (cNodeOk l1')) (h2' : n2' ≤ 1048576) (r2' : Rd w lo2' hi2' 6 A2' n2' (cEdit l2')) (b2' : Hid (cEditOk l2')) (h3' : n3' ≤ 1048576) (r3' : Rd w lo3' hi3' 1 A3' n3' (i64s l3')) (b3' : Hid (I64s l3')) :
    Calls Try.prog 80 #[.agg #[.int .i64 s0.f0, .int .i64 s0.f1, .slice A1 n1 c1, .slice A2 n2 c2, .slice A3 n3 c3, .int .i64 p4], .agg #[.int .i64 s0'.f0, .int .i64 s0'.f1, .slice A1' n1' c1', .slice A2' n2' c2', .slice A3' n3' c3', .int .i64 p4']] w (Says (.bool (mEqTab s0 l1 l2 l3 p4 s0' l1' l2' l3' p4')) w) := by
  have R1 := Lib.hid (r1)
  clear r1
  have R1' := Lib.hid (r1')
  clear r1'
  have R2 := Lib.hid (r2)
  clear r2
  have R2' := Lib.hid (r2')
  clear r2'
  have R3 := Lib.hid (r3)
  clear r3
  have R3' := Lib.hid (r3')
  clear r3'
  have KA := Lib.hid (show BoxAt ((w.alloc (.cells #[.int .i64 s0.f0, .int .i64 s0.f1, .slice A1 n1 c1, .slice A2 n2 c2, .slice A3 n3 c3, .int .i64 p4] 101)).alloc (.cells #[.int .i64 s0'.f0, .int .i64 s0'.f1, .slice A1' n1' c1', .slice A2' n2' c2', .slice A3' n3' c3', .int .i64 p4'] 101)) w.heap.size 101 #[.int .i64 s0.f0, .int .i64 s0.f1, .slice A1 n1 c1, .slice A2 n2 c2, .slice A3 n3 c3, .int .i64 p4] from (box_new w 101 #[.int .i64 s0.f0, .int .i64 s0.f1, .slice A1 n1 c1, .slice A2 n2 c2, .slice A3 n3 c3, .int .i64 p4]).alloc_ _)
  have KC := Lib.hid (show BoxAt ((w.alloc (.cells #[.int .i64 s0.f0, .int .i64 s0.f1, .slice A1 n1 c1, .slice A2 n2 c2, .slice A3 n3 c3, .int .i64 p4] 101)).alloc (.cells #[.int .i64 s0'.f0, .int .i64 s0'.f1, .slice A1' n1' c1', .slice A2' n2' c2', .slice A3' n3' c3', .int .i64 p4'] 101)) (w.heap.size + 1) 101 #[.int .i64 s0'.f0, .int .i64 s0'.f1, .slice A1' n1' c1', .slice A2' n2' c2', .slice A3' n3' c3', .int .i64 p4'] by simpa using box_new (w.alloc (.cells #[.int .i64 s0.f0, .int .i64 s0.f1, .slice A1 n1 c1, .slice A2 n2 c2, .slice A3 n3 c3, .int .i64 p4] 101)) 101 #[.int .i64 s0'.f0, .int .i64 s0'.f1, .slice A1' n1' c1', .slice A2' n2' c2', .slice A3' n3' c3', .int .i64 p4'])
  have HB := Lib.hid (show Below w.heap.size w ((w.alloc (.cells #[.int .i64 s0.f0, .int .i64 s0.f1, .slice A1 n1 c1, .slice A2 n2 c2, .slice A3 n3 c3, .int .i64 p4] 101)).alloc (.cells #[.int .i64 s0'.f0, .int .i64 s0'.f1, .slice A1' n1' c1', .slice A2' n2' c2', .slice A3' n3' c3', .int .i64 p4'] 101)) from ((Below.refl _ _).alloc (Nat.le_refl _) _).alloc (by simp) _)
  by_cases e0 : s0 = s0'
  · skip
    by_cases h_4 : (p4 == p4') = true
    · skip
      by_cases e1 : l1 = l1'
      · skip
        by_cases e2 : l2 = l2'
        · skip
          by_cases e3 : l3 = l3'
          · skip
            have HE := Lib.hid (show mEqTab s0 l1 l2 l3 p4 s0' l1' l2' l3' p4' = true by unfold mEqTab; simp [e0, h_4, e1, e2, e3])
            have g0 : ∀ w, _ := fun w => (eql_Site s0 s0' w).trans (by rw [decide_eq_true e0])
            have D1 := Lib.hid (show decide (l1 = l1') = true by rw [decide_eq_true e1])
            have D2 := Lib.hid (show decide (l2 = l2') = true by rw [decide_eq_true e2])
            have D3 := Lib.hid (show decide (l3 = l3') = true by rw [decide_eq_true e3])
            clear e0 e1 e2 e3
            go_enter Try.func80, Try.ntmps80
            go_wp2_with fail
            refine Calls.mono (spec_EqualDocuments l1 A1 n1 c1 lo1 hi1 l1' A1' n1' c1' lo1' hi1' _ h1 (R1.out.new HB.out) b1 h1' (R1'.out.new HB.out) b1') ?_
            rw [D1.out]
            rintro e w1 ⟨rfl, hb⟩
            replace KA := Lib.hid (KA.out.new hb)
            replace KC := Lib.hid (KC.out.new hb)
            replace HB := Lib.hid (below_trans HB.out hb (Nat.le_refl _))
            clear hb
            have ea0 := KA.out.at_ (j := 0) rfl
            have ec0 := KC.out.at_ (j := 0) rfl
            have ea1 := KA.out.at_ (j := 1) rfl
            have ec1 := KC.out.at_ (j := 1) rfl
            have ea2 := KA.out.at_ (j := 2) rfl
            have ec2 := KC.out.at_ (j := 2) rfl
            have ea3 := KA.out.at_ (j := 3) rfl
            have ec3 := KC.out.at_ (j := 3) rfl
            have ea4 := KA.out.at_ (j := 4) rfl
            have ec4 := KC.out.at_ (j := 4) rfl
            have ea5 := KA.out.at_ (j := 5) rfl
            have ec5 := KC.out.at_ (j := 5) rfl
            go_wp2_with fail
            clear ea0 ec0 ea1 ec1 ea2 ec2 ea3 ec3 ea4 ec4 ea5 ec5
            refine Calls.mono (speq_Edit l2 l2' A2 A2' n2 n2' c2 c2' lo2 hi2 lo2' hi2' _ (by omega) (by omega) (R2.out.new HB.out) (R2'.out.new HB.out)) ?_
            rw [D2.out]
            rintro e w2 hq
            obtain ⟨rfl, hb⟩ := hq.says
            replace KA := Lib.hid (KA.out.new hb)
            replace KC := Lib.hid (KC.out.new hb)
            replace HB := Lib.hid (below_trans HB.out hb (Nat.le_refl _))
            clear hb
            have ea0 := KA.out.at_ (j := 0) rfl
            have ec0 := KC.out.at_ (j := 0) rfl
            have ea1 := KA.out.at_ (j := 1) rfl
            have ec1 := KC.out.at_ (j := 1) rfl
            have ea2 := KA.out.at_ (j := 2) rfl
            have ec2 := KC.out.at_ (j := 2) rfl
            have ea3 := KA.out.at_ (j := 3) rfl
            have ec3 := KC.out.at_ (j := 3) rfl
            have ea4 := KA.out.at_ (j := 4) rfl
            have ec4 := KC.out.at_ (j := 4) rfl
            have ea5 := KA.out.at_ (j := 5) rfl
            have ec5 := KC.out.at_ (j := 5) rfl
            go_wp2_with fail
            clear ea0 ec0 ea1 ec1 ea2 ec2 ea3 ec3 ea4 ec4 ea5 ec5
            refine Calls.mono (spec_EqualInts l3 A3 n3 c3 lo3 hi3 l3' A3' n3' c3' lo3' hi3' _ h3 (R3.out.new HB.out) b3 h3' (R3'.out.new HB.out) b3') ?_
            rw [D3.out]
            rintro e w3 ⟨rfl, hb⟩
            replace KA := Lib.hid (KA.out.new hb)
            replace KC := Lib.hid (KC.out.new hb)
            replace HB := Lib.hid (below_trans HB.out hb (Nat.le_refl _))
            clear hb
            go_wp2_with fail
            go_ret
            exact ⟨by rw [HE.out]; rfl, HB.out⟩
          · skip
            have HE := Lib.hid (show mEqTab s0 l1 l2 l3 p4 s0' l1' l2' l3' p4' = false by unfold mEqTab; simp [e0, h_4, e1, e2, e3])
            have g0 : ∀ w, _ := fun w => (eql_Site s0 s0' w).trans (by rw [decide_eq_true e0])
            have D1 := Lib.hid (show decide (l1 = l1') = true by rw [decide_eq_true e1])
            have D2 := Lib.hid (show decide (l2 = l2') = true by rw [decide_eq_true e2])
            have D3 := Lib.hid (show decide (l3 = l3') = false by rw [decide_eq_false e3])
            clear e0 e1 e2 e3
            go_enter Try.func80, Try.ntmps80
            go_wp2_with fail
            refine Calls.mono (spec_EqualDocuments l1 A1 n1 c1 lo1 hi1 l1' A1' n1' c1' lo1' hi1' _ h1 (R1.out.new HB.out) b1 h1' (R1'.out.new HB.out) b1') ?_
            rw [D1.out]
            rintro e w1 ⟨rfl, hb⟩
            replace KA := Lib.hid (KA.out.new hb)
            replace KC := Lib.hid (KC.out.new hb)
            replace HB := Lib.hid (below_trans HB.out hb (Nat.le_refl _))
            clear hb
            have ea0 := KA.out.at_ (j := 0) rfl
            have ec0 := KC.out.at_ (j := 0) rfl
            have ea1 := KA.out.at_ (j := 1) rfl
            have ec1 := KC.out.at_ (j := 1) rfl
            have ea2 := KA.out.at_ (j := 2) rfl
            have ec2 := KC.out.at_ (j := 2) rfl
            have ea3 := KA.out.at_ (j := 3) rfl
            have ec3 := KC.out.at_ (j := 3) rfl
            have ea4 := KA.out.at_ (j := 4) rfl
            have ec4 := KC.out.at_ (j := 4) rfl
            have ea5 := KA.out.at_ (j := 5) rfl
            have ec5 := KC.out.at_ (j := 5) rfl
            go_wp2_with fail
            clear ea0 ec0 ea1 ec1 ea2 ec2 ea3 ec3 ea4 ec4 ea5 ec5
            refine Calls.mono (speq_Edit l2 l2' A2 A2' n2 n2' c2 c2' lo2 hi2 lo2' hi2' _ (by omega) (by omega) (R2.out.new HB.out) (R2'.out.new HB.out)) ?_
            rw [D2.out]
            rintro e w2 hq
            obtain ⟨rfl, hb⟩ := hq.says
            replace KA := Lib.hid (KA.out.new hb)
            replace KC := Lib.hid (KC.out.new hb)
            replace HB := Lib.hid (below_trans HB.out hb (Nat.le_refl _))
            clear hb
            have ea0 := KA.out.at_ (j := 0) rfl
            have ec0 := KC.out.at_ (j := 0) rfl
            have ea1 := KA.out.at_ (j := 1) rfl
            have ec1 := KC.out.at_ (j := 1) rfl
            have ea2 := KA.out.at_ (j := 2) rfl
            have ec2 := KC.out.at_ (j := 2) rfl
            have ea3 := KA.out.at_ (j := 3) rfl
            have ec3 := KC.out.at_ (j := 3) rfl
            have ea4 := KA.out.at_ (j := 4) rfl
            have ec4 := KC.out.at_ (j := 4) rfl
            have ea5 := KA.out.at_ (j := 5) rfl
            have ec5 := KC.out.at_ (j := 5) rfl
            go_wp2_with fail
            clear ea0 ec0 ea1 ec1 ea2 ec2 ea3 ec3 ea4 ec4 ea5 ec5
            refine Calls.mono (spec_EqualInts l3 A3 n3 c3 lo3 hi3 l3' A3' n3' c3' lo3' hi3' _ h3 (R3.out.new HB.out) b3 h3' (R3'.out.new HB.out) b3') ?_
            rw [D3.out]
            rintro e w3 ⟨rfl, hb⟩
            replace KA := Lib.hid (KA.out.new hb)
            replace KC := Lib.hid (KC.out.new hb)
            replace HB := Lib.hid (below_trans HB.out hb (Nat.le_refl _))
            clear hb
            go_wp2_with fail
            go_ret
            exact ⟨by rw [HE.out]; rfl, HB.out⟩
        · skip
          have HE := Lib.hid (show mEqTab s0 l1 l2 l3 p4 s0' l1' l2' l3' p4' = false by unfold mEqTab; simp [e0, h_4, e1, e2])
          have g0 : ∀ w, _ := fun w => (eql_Site s0 s0' w).trans (by rw [decide_eq_true e0])
          have D1 := Lib.hid (show decide (l1 = l1') = true by rw [decide_eq_true e1])
          have D2 := Lib.hid (show decide (l2 = l2') = false by rw [decide_eq_false e2])
          clear e0 e1 e2
          go_enter Try.func80, Try.ntmps80
          go_wp2_with fail
          refine Calls.mono (spec_EqualDocuments l1 A1 n1 c1 lo1 hi1 l1' A1' n1' c1' lo1' hi1' _ h1 (R1.out.new HB.out) b1 h1' (R1'.out.new HB.out) b1') ?_
          rw [D1.out]
          rintro e w1 ⟨rfl, hb⟩
          replace KA := Lib.hid (KA.out.new hb)
          replace KC := Lib.hid (KC.out.new hb)
          replace HB := Lib.hid (below_trans HB.out hb (Nat.le_refl _))
          clear hb
          have ea0 := KA.out.at_ (j := 0) rfl
          have ec0 := KC.out.at_ (j := 0) rfl
          have ea1 := KA.out.at_ (j := 1) rfl
          have ec1 := KC.out.at_ (j := 1) rfl
          have ea2 := KA.out.at_ (j := 2) rfl
          have ec2 := KC.out.at_ (j := 2) rfl
          have ea3 := KA.out.at_ (j := 3) rfl
          have ec3 := KC.out.at_ (j := 3) rfl
          have ea4 := KA.out.at_ (j := 4) rfl
          have ec4 := KC.out.at_ (j := 4) rfl
          have ea5 := KA.out.at_ (j := 5) rfl
          have ec5 := KC.out.at_ (j := 5) rfl
          go_wp2_with fail
          clear ea0 ec0 ea1 ec1 ea2 ec2 ea3 ec3 ea4 ec4 ea5 ec5
          refine Calls.mono (speq_Edit l2 l2' A2 A2' n2 n2' c2 c2' lo2 hi2 lo2' hi2' _ (by omega) (by omega) (R2.out.new HB.out) (R2'.out.new HB.out)) ?_
          rw [D2.out]
          rintro e w2 hq
          obtain ⟨rfl, hb⟩ := hq.says
          replace KA := Lib.hid (KA.out.new hb)
          replace KC := Lib.hid (KC.out.new hb)
          replace HB := Lib.hid (below_trans HB.out hb (Nat.le_refl _))
          clear hb
          go_wp2_with fail
          go_ret
          exact ⟨by rw [HE.out]; rfl, HB.out⟩
      · skip
        have HE := Lib.hid (show mEqTab s0 l1 l2 l3 p4 s0' l1' l2' l3' p4' = false by unfold mEqTab; simp [e0, h_4, e1])
        have g0 : ∀ w, _ := fun w => (eql_Site s0 s0' w).trans (by rw [decide_eq_true e0])
        have D1 := Lib.hid (show decide (l1 = l1') = false by rw [decide_eq_false e1])
        clear e0 e1
        go_enter Try.func80, Try.ntmps80
        go_wp2_with fail
        refine Calls.mono (spec_EqualDocuments l1 A1 n1 c1 lo1 hi1 l1' A1' n1' c1' lo1' hi1' _ h1 (R1.out.new HB.out) b1 h1' (R1'.out.new HB.out) b1') ?_
        rw [D1.out]
        rintro e w1 ⟨rfl, hb⟩
        replace KA := Lib.hid (KA.out.new hb)
        replace KC := Lib.hid (KC.out.new hb)
        replace HB := Lib.hid (below_trans HB.out hb (Nat.le_refl _))
        clear hb
        go_wp2_with fail
        go_ret
        exact ⟨by rw [HE.out]; rfl, HB.out⟩
    · skip
      have h_4 : (p4 == p4') = false := by simpa using h_4
      have HE := Lib.hid (show mEqTab s0 l1 l2 l3 p4 s0' l1' l2' l3' p4' = false by unfold mEqTab; simp [e0, h_4])
      have g0 : ∀ w, _ := fun w => (eql_Site s0 s0' w).trans (by rw [decide_eq_true e0])
      clear e0
      go_enter Try.func80, Try.ntmps80
      go_wp2_with fail
      go_ret
      exact ⟨by rw [HE.out]; rfl, HB.out⟩
  · skip
    have HE := Lib.hid (show mEqTab s0 l1 l2 l3 p4 s0' l1' l2' l3' p4' = false by unfold mEqTab; simp [e0])
    have g0 : ∀ w, _ := fun w => (eql_Site s0 s0' w).trans (by rw [decide_eq_false e0])
    clear e0
    go_enter Try.func80, Try.ntmps80
    go_wp2_with fail
    go_ret
    exact ⟨by rw [HE.out]; rfl, HB.out⟩

end Go.Proofs.Ytfhoemgpilpapaa
