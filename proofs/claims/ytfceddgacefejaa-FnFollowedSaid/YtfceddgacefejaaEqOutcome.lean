/- EqualOutcomes, of the program and of the model, answer whether all fields are equal. -/
import Derived.Test.YtfceddgacefejaaROutcome
import Derived.Test.YtfceddgacefejaaESite
namespace Go.Proofs.Ytfceddgacefejaa
open Go Go.ChangeShapes Go.WideShapes Go.ChangeAt Go.RowKit Go.Lib
set_option linter.unusedVariables false
set_option linter.unusedSimpArgs false
set_option maxRecDepth 100000
set_option maxHeartbeats 8000000
def mEqOutcome (p0 : Int) (s1 : TSite) (l2 : List TSite) (p0' : Int) (s1' : TSite) (l2' : List TSite) : Bool := (p0 == p0') && decide (s1 = s1') && decide (l2 = l2')
theorem sleq_Site (l l' : List TSite) (A A' : Option Addr) (n n' c c' lo hi lo' hi' : Nat) (w : World) (hn : n ≤ 17592186044416) (hn' : n' ≤ 17592186044416) (hr : Rd w lo hi 2 A n (cSite l)) (hr' : Rd w lo' hi' 2 A' n' (cSite l')) :
    Calls Try.prog 163 #[.slice A n c, .slice A' n' c'] w (Quiet (.bool (decide (l = l'))) w) := by
  have HL := Lib.hid (rd_len TSite.len hr (by decide))
  have HL' := Lib.hid (rd_len TSite.len hr' (by decide))
  have HR := Lib.hid hr
  have HR' := Lib.hid hr'
  clear hr hr'
  by_cases hnn : n = n'
  · have g0 : ((n : Int) != n') = false := by simp; omega
    have HN := Lib.hid hnn
    clear hnn
    go_enter Try.func163, Try.ntmps163
    go_wp2_with fail
    go_loopw [13] (fun i wr => ∃ k : Nat, k ≤ n ∧ i = .int .i64 k ∧ l.take k = l'.take k ∧ ∃ d, wr = w.drewN d) (fun i _ => n - (intOf i).toNat)
    case atStart => exact ⟨0, Nat.zero_le _, rfl, rfl, 0, rfl⟩
    case round =>
      obtain ⟨k, hk, rfl, ht, d, rfl⟩ := hrel
      have HT := Lib.hid ht
      clear ht
      by_cases hlt : k < n
      · have hlt' : k < n' := by have := HN.out; omega
        obtain ⟨b, off, x, rfl, _, _, hz, hc⟩ := rd_elem TSite.len HR.out HL.out hlt
        obtain ⟨b', off', x', rfl, _, _, hz', hc'⟩ := rd_elem TSite.len HR'.out HL'.out hlt'
        have c0 : w.cell? ⟨b, off + k * 2, none⟩ = _ := hc 0 _ rfl
        have c1 := hc 1 _ rfl
        have c0' : w.cell? ⟨b', off' + k * 2, none⟩ = _ := hc' 0 _ rfl
        have c1' := hc' 1 _ rfl
        have HZ := Lib.hid hz
        have HZ' := Lib.hid hz'
        clear hz hz' hc hc'
        by_cases e : x = x'
        · have g1 : ∀ w, _ := fun w => (neq_Site x x' w).trans (by rw [decide_eq_true e])
          simp only [Bool.not_true] at g1
          have HE := Lib.hid (takes_eq_step HT.out HZ.out HZ'.out e)
          clear e
          go_wp2_with fail
          go_quiet (fail)
          go_wp2_with fail
          go_roundw
          case rel => exact ⟨k + 1, by omega, by go_num, HE.out, _, by first | exact World.drewN_drewN _ _ _ | rfl⟩
          case measure => simp [intOf]; omega
        · have g1 : ∀ w, _ := fun w => (neq_Site x x' w).trans (by rw [decide_eq_false e])
          simp only [Bool.not_false] at g1
          have HE := Lib.hid (nes_at HZ.out HZ'.out e)
          clear e
          go_wp2_with fail
          go_quiet (fail)
          go_wp2_with fail
          go_ret
          exact ⟨by rw [HE.out]; rfl, _, by first | exact World.drewN_drewN _ _ _ | rfl⟩
      · obtain rfl : k = n := by omega
        have HE := Lib.hid (show decide (l = l') = true by
          rw [decide_eq_true_iff]
          have := HT.out
          rw [List.take_of_length_le (by have := HL.out; omega), List.take_of_length_le (by have := HL'.out; have := HN.out; omega)] at this
          exact this)
        go_wp2_with fail
        go_ret
        exact ⟨by rw [HE.out]; rfl, _, by first | exact World.drewN_drewN _ _ _ | rfl⟩
  · have g0 : ((n : Int) != n') = true := by simp; omega
    have HE := Lib.hid (show decide (l = l') = false by
      rw [decide_eq_false_iff_not]
      rintro rfl
      have := HL.out; have := HL'.out; omega)
    clear hnn
    go_enter Try.func163, Try.ntmps163
    go_wp2_with fail
    go_ret
    exact ⟨by rw [HE.out]; rfl, 0, rfl⟩


theorem impl_EqualOutcomes (p0 : Int) (s1 : TSite) (l2 : List TSite) (A2 : Option Addr) (n2 c2 lo2 hi2 : Nat) (p0' : Int) (s1' : TSite) (l2' : List TSite) (A2' : Option Addr) (n2' c2' lo2' hi2' : Nat) (w : World) (h2 : n2 ≤ 1048576) (r2 : Rd w lo2 hi2 2 A2 n2 (cSite l2)) (b2 : Hid (cSiteOk l2)) (h2' : n2' ≤ 1048576) (r2' : Rd w lo2' hi2' 2 A2' n2' (cSite l2')) (b2' : Hid (cSiteOk l2')) :
    Calls Try.prog 53 #[.agg #[.int .i64 p0, .int .i64 s1.f0, .int .i64 s1.f1, .slice A2 n2 c2], .agg #[.int .i64 p0', .int .i64 s1'.f0, .int .i64 s1'.f1, .slice A2' n2' c2']] w (Says (.bool (mEqOutcome p0 s1 l2 p0' s1' l2')) w) := by
  have R2 := Lib.hid (r2)
  clear r2
  have R2' := Lib.hid (r2')
  clear r2'
  have KA := Lib.hid (show BoxAt ((w.alloc (.cells #[.int .i64 p0, .int .i64 s1.f0, .int .i64 s1.f1, .slice A2 n2 c2] 71)).alloc (.cells #[.int .i64 p0', .int .i64 s1'.f0, .int .i64 s1'.f1, .slice A2' n2' c2'] 71)) w.heap.size 71 #[.int .i64 p0, .int .i64 s1.f0, .int .i64 s1.f1, .slice A2 n2 c2] from (box_new w 71 #[.int .i64 p0, .int .i64 s1.f0, .int .i64 s1.f1, .slice A2 n2 c2]).alloc_ _)
  have KC := Lib.hid (show BoxAt ((w.alloc (.cells #[.int .i64 p0, .int .i64 s1.f0, .int .i64 s1.f1, .slice A2 n2 c2] 71)).alloc (.cells #[.int .i64 p0', .int .i64 s1'.f0, .int .i64 s1'.f1, .slice A2' n2' c2'] 71)) (w.heap.size + 1) 71 #[.int .i64 p0', .int .i64 s1'.f0, .int .i64 s1'.f1, .slice A2' n2' c2'] by simpa using box_new (w.alloc (.cells #[.int .i64 p0, .int .i64 s1.f0, .int .i64 s1.f1, .slice A2 n2 c2] 71)) 71 #[.int .i64 p0', .int .i64 s1'.f0, .int .i64 s1'.f1, .slice A2' n2' c2'])
  have HB := Lib.hid (show Below w.heap.size w ((w.alloc (.cells #[.int .i64 p0, .int .i64 s1.f0, .int .i64 s1.f1, .slice A2 n2 c2] 71)).alloc (.cells #[.int .i64 p0', .int .i64 s1'.f0, .int .i64 s1'.f1, .slice A2' n2' c2'] 71)) from ((Below.refl _ _).alloc (Nat.le_refl _) _).alloc (by simp) _)
  by_cases h_0 : (p0 == p0') = true
  · skip
    by_cases e1 : s1 = s1'
    · skip
      by_cases e2 : l2 = l2'
      · skip
        have HE := Lib.hid (show mEqOutcome p0 s1 l2 p0' s1' l2' = true by unfold mEqOutcome; simp [h_0, e1, e2])
        have g1 : ∀ w, _ := fun w => (eql_Site s1 s1' w).trans (by rw [decide_eq_true e1])
        have D2 := Lib.hid (show decide (l2 = l2') = true by rw [decide_eq_true e2])
        clear e1 e2
        go_enter Try.func53, Try.ntmps53
        go_wp2_with fail
        refine Calls.mono (sleq_Site l2 l2' A2 A2' n2 n2' c2 c2' lo2 hi2 lo2' hi2' _ (by omega) (by omega) (R2.out.new HB.out) (R2'.out.new HB.out)) ?_
        rw [D2.out]
        rintro e w1 hq
        obtain ⟨rfl, hb⟩ := hq.says
        replace KA := Lib.hid (KA.out.new hb)
        replace KC := Lib.hid (KC.out.new hb)
        replace HB := Lib.hid (below_trans HB.out hb (Nat.le_refl _))
        clear hb
        go_wp2_with fail
        go_ret
        exact ⟨by rw [HE.out]; rfl, HB.out⟩
      · skip
        have HE := Lib.hid (show mEqOutcome p0 s1 l2 p0' s1' l2' = false by unfold mEqOutcome; simp [h_0, e1, e2])
        have g1 : ∀ w, _ := fun w => (eql_Site s1 s1' w).trans (by rw [decide_eq_true e1])
        have D2 := Lib.hid (show decide (l2 = l2') = false by rw [decide_eq_false e2])
        clear e1 e2
        go_enter Try.func53, Try.ntmps53
        go_wp2_with fail
        refine Calls.mono (sleq_Site l2 l2' A2 A2' n2 n2' c2 c2' lo2 hi2 lo2' hi2' _ (by omega) (by omega) (R2.out.new HB.out) (R2'.out.new HB.out)) ?_
        rw [D2.out]
        rintro e w1 hq
        obtain ⟨rfl, hb⟩ := hq.says
        replace KA := Lib.hid (KA.out.new hb)
        replace KC := Lib.hid (KC.out.new hb)
        replace HB := Lib.hid (below_trans HB.out hb (Nat.le_refl _))
        clear hb
        go_wp2_with fail
        go_ret
        exact ⟨by rw [HE.out]; rfl, HB.out⟩
    · skip
      have HE := Lib.hid (show mEqOutcome p0 s1 l2 p0' s1' l2' = false by unfold mEqOutcome; simp [h_0, e1])
      have g1 : ∀ w, _ := fun w => (eql_Site s1 s1' w).trans (by rw [decide_eq_false e1])
      clear e1
      go_enter Try.func53, Try.ntmps53
      go_wp2_with fail
      go_ret
      exact ⟨by rw [HE.out]; rfl, HB.out⟩
  · skip
    have h_0 : (p0 == p0') = false := by simpa using h_0
    have HE := Lib.hid (show mEqOutcome p0 s1 l2 p0' s1' l2' = false by unfold mEqOutcome; simp [h_0])
    go_enter Try.func53, Try.ntmps53
    go_wp2_with fail
    go_ret
    exact ⟨by rw [HE.out]; rfl, HB.out⟩

end Go.Proofs.Ytfceddgacefejaa
