/- RoomFor, of the program and of the model. -/
import Derived.Test.YtlnmgfbfpjfddaaQuota
namespace Go.Proofs.Ytlnmgfbfpjfddaa
open Go Go.ChangeShapes Go.WideShapes Go.ChangeAt Go.RowKit Go.Lib
set_option linter.unusedVariables false
set_option linter.unusedSimpArgs false
set_option maxRecDepth 100000
set_option maxHeartbeats 8000000 in
theorem impl_RoomFor (l : List TRule) (A : Option Addr) (n c lo hi : Nat) (a1 : Int) (w : World) (hn : n ≤ 1048576) (hr : Rd w lo hi 8 A n (cRule l)) (H : Hid (cRuleOk l)) (wfa1 : (Lit.int .i64 a1).wf = true) :
    Calls Try.prog 51 #[.slice A n c, .int .i64 a1] w (Says (.int .i64 (mRoom l a1)) w) := by
  have HL := rd_len TRule.len hr (by decide)
  have C0 := Lib.hid (fun W (hr : Rd W lo hi 8 A n (cRule l)) => impl_quotaOf l A n c lo hi W hn hr)
  have HR := Lib.hid hr
  clear hr wfa1
  by_cases hx : inR a1 1 5 = true
  · have hxr : a1 = 1 ∨ a1 = 2 ∨ a1 = 3 ∨ a1 = 4 ∨ a1 = 5 := by simp [inR] at hx; omega
    rcases hxr with rfl | rfl | rfl | rfl | rfl
    · have HV := Lib.hid (show mRoom l 1 = mMax 0 (mMin (6 - (mCnt l 1 : Nat)) (20 - (n : Nat))) by unfold mRoom; rw [HL]; rfl)
      rw [HV.out]
      have hb := cnt_le l 1
      have i0 : ∀ w, (Instr.index 161 (.agg (vQ l)) (.int .i64 1)).run Try.prog w = .ok (.int .i64 (mCnt l 1 : Nat)) w := fun _ => by kernel_rfl
      generalize mCnt l 1 = c1 at hb i0 ⊢
      have hb1 : (c1 : Int) ≤ 1048576 := by omega
      have hb2 : (n : Int) ≤ 1048576 := by omega
      clear hb HL hx HV
      have C1 := Lib.hid (fun W => impl_Min (6 - (c1 : Int)) (20 - (n : Int)) W)
      have C2 := Lib.hid (fun W => impl_Max 0 (mMin (6 - (c1 : Int)) (20 - (n : Int))) W)
      have hx : inR 1 1 5 = true := rfl
      go_enter Try.func51, Try.ntmps51
      go_wp2_with (first | (go_at_call 91; refine (impl_in _ _ _ _).mono ?_; rintro e w1 ⟨rfl, rfl⟩) | (go_at_call 137; refine Calls.mono (C0.out _ HR.out) ?_; rintro e w1 ⟨rfl, hb1⟩; (have HB1 := Lib.hid hb1); clear hb1) | (go_at_call 123; refine Calls.mono (C1.out _) ?_; rintro e w2 ⟨rfl, hb1⟩; (have HB2 := Lib.hid (below_trans HB1.out hb1 (Nat.le_refl _))); clear hb1) | (go_at_call 122; refine Calls.mono (C2.out _) ?_; rintro e w3 ⟨rfl, hb1⟩; (have HB3 := Lib.hid (below_trans HB2.out hb1 (Nat.le_refl _))); clear hb1))
      go_ret
      exact ⟨rfl, HB3.out⟩
    · have HV := Lib.hid (show mRoom l 2 = mMax 0 (mMin (6 - (mCnt l 2 : Nat)) (20 - (n : Nat))) by unfold mRoom; rw [HL]; rfl)
      rw [HV.out]
      have hb := cnt_le l 2
      have i0 : ∀ w, (Instr.index 161 (.agg (vQ l)) (.int .i64 2)).run Try.prog w = .ok (.int .i64 (mCnt l 2 : Nat)) w := fun _ => by kernel_rfl
      generalize mCnt l 2 = c1 at hb i0 ⊢
      have hb1 : (c1 : Int) ≤ 1048576 := by omega
      have hb2 : (n : Int) ≤ 1048576 := by omega
      clear hb HL hx HV
      have C1 := Lib.hid (fun W => impl_Min (6 - (c1 : Int)) (20 - (n : Int)) W)
      have C2 := Lib.hid (fun W => impl_Max 0 (mMin (6 - (c1 : Int)) (20 - (n : Int))) W)
      have hx : inR 2 1 5 = true := rfl
      go_enter Try.func51, Try.ntmps51
      go_wp2_with (first | (go_at_call 91; refine (impl_in _ _ _ _).mono ?_; rintro e w1 ⟨rfl, rfl⟩) | (go_at_call 137; refine Calls.mono (C0.out _ HR.out) ?_; rintro e w1 ⟨rfl, hb1⟩; (have HB1 := Lib.hid hb1); clear hb1) | (go_at_call 123; refine Calls.mono (C1.out _) ?_; rintro e w2 ⟨rfl, hb1⟩; (have HB2 := Lib.hid (below_trans HB1.out hb1 (Nat.le_refl _))); clear hb1) | (go_at_call 122; refine Calls.mono (C2.out _) ?_; rintro e w3 ⟨rfl, hb1⟩; (have HB3 := Lib.hid (below_trans HB2.out hb1 (Nat.le_refl _))); clear hb1))
      go_ret
      exact ⟨rfl, HB3.out⟩
    · have HV := Lib.hid (show mRoom l 3 = mMax 0 (mMin (6 - (mCnt l 3 : Nat)) (20 - (n : Nat))) by unfold mRoom; rw [HL]; rfl)
      rw [HV.out]
      have hb := cnt_le l 3
      have i0 : ∀ w, (Instr.index 161 (.agg (vQ l)) (.int .i64 3)).run Try.prog w = .ok (.int .i64 (mCnt l 3 : Nat)) w := fun _ => by kernel_rfl
      generalize mCnt l 3 = c1 at hb i0 ⊢
      have hb1 : (c1 : Int) ≤ 1048576 := by omega
      have hb2 : (n : Int) ≤ 1048576 := by omega
      clear hb HL hx HV
      have C1 := Lib.hid (fun W => impl_Min (6 - (c1 : Int)) (20 - (n : Int)) W)
      have C2 := Lib.hid (fun W => impl_Max 0 (mMin (6 - (c1 : Int)) (20 - (n : Int))) W)
      have hx : inR 3 1 5 = true := rfl
      go_enter Try.func51, Try.ntmps51
      go_wp2_with (first | (go_at_call 91; refine (impl_in _ _ _ _).mono ?_; rintro e w1 ⟨rfl, rfl⟩) | (go_at_call 137; refine Calls.mono (C0.out _ HR.out) ?_; rintro e w1 ⟨rfl, hb1⟩; (have HB1 := Lib.hid hb1); clear hb1) | (go_at_call 123; refine Calls.mono (C1.out _) ?_; rintro e w2 ⟨rfl, hb1⟩; (have HB2 := Lib.hid (below_trans HB1.out hb1 (Nat.le_refl _))); clear hb1) | (go_at_call 122; refine Calls.mono (C2.out _) ?_; rintro e w3 ⟨rfl, hb1⟩; (have HB3 := Lib.hid (below_trans HB2.out hb1 (Nat.le_refl _))); clear hb1))
      go_ret
      exact ⟨rfl, HB3.out⟩
    · have HV := Lib.hid (show mRoom l 4 = mMax 0 (mMin (6 - (mCnt l 4 : Nat)) (20 - (n : Nat))) by unfold mRoom; rw [HL]; rfl)
      rw [HV.out]
      have hb := cnt_le l 4
      have i0 : ∀ w, (Instr.index 161 (.agg (vQ l)) (.int .i64 4)).run Try.prog w = .ok (.int .i64 (mCnt l 4 : Nat)) w := fun _ => by kernel_rfl
      generalize mCnt l 4 = c1 at hb i0 ⊢
      have hb1 : (c1 : Int) ≤ 1048576 := by omega
      have hb2 : (n : Int) ≤ 1048576 := by omega
      clear hb HL hx HV
      have C1 := Lib.hid (fun W => impl_Min (6 - (c1 : Int)) (20 - (n : Int)) W)
      have C2 := Lib.hid (fun W => impl_Max 0 (mMin (6 - (c1 : Int)) (20 - (n : Int))) W)
      have hx : inR 4 1 5 = true := rfl
      go_enter Try.func51, Try.ntmps51
      go_wp2_with (first | (go_at_call 91; refine (impl_in _ _ _ _).mono ?_; rintro e w1 ⟨rfl, rfl⟩) | (go_at_call 137; refine Calls.mono (C0.out _ HR.out) ?_; rintro e w1 ⟨rfl, hb1⟩; (have HB1 := Lib.hid hb1); clear hb1) | (go_at_call 123; refine Calls.mono (C1.out _) ?_; rintro e w2 ⟨rfl, hb1⟩; (have HB2 := Lib.hid (below_trans HB1.out hb1 (Nat.le_refl _))); clear hb1) | (go_at_call 122; refine Calls.mono (C2.out _) ?_; rintro e w3 ⟨rfl, hb1⟩; (have HB3 := Lib.hid (below_trans HB2.out hb1 (Nat.le_refl _))); clear hb1))
      go_ret
      exact ⟨rfl, HB3.out⟩
    · have HV := Lib.hid (show mRoom l 5 = mMax 0 (mMin (6 - (mCnt l 5 : Nat)) (20 - (n : Nat))) by unfold mRoom; rw [HL]; rfl)
      rw [HV.out]
      have hb := cnt_le l 5
      have i0 : ∀ w, (Instr.index 161 (.agg (vQ l)) (.int .i64 5)).run Try.prog w = .ok (.int .i64 (mCnt l 5 : Nat)) w := fun _ => by kernel_rfl
      generalize mCnt l 5 = c1 at hb i0 ⊢
      have hb1 : (c1 : Int) ≤ 1048576 := by omega
      have hb2 : (n : Int) ≤ 1048576 := by omega
      clear hb HL hx HV
      have C1 := Lib.hid (fun W => impl_Min (6 - (c1 : Int)) (20 - (n : Int)) W)
      have C2 := Lib.hid (fun W => impl_Max 0 (mMin (6 - (c1 : Int)) (20 - (n : Int))) W)
      have hx : inR 5 1 5 = true := rfl
      go_enter Try.func51, Try.ntmps51
      go_wp2_with (first | (go_at_call 91; refine (impl_in _ _ _ _).mono ?_; rintro e w1 ⟨rfl, rfl⟩) | (go_at_call 137; refine Calls.mono (C0.out _ HR.out) ?_; rintro e w1 ⟨rfl, hb1⟩; (have HB1 := Lib.hid hb1); clear hb1) | (go_at_call 123; refine Calls.mono (C1.out _) ?_; rintro e w2 ⟨rfl, hb1⟩; (have HB2 := Lib.hid (below_trans HB1.out hb1 (Nat.le_refl _))); clear hb1) | (go_at_call 122; refine Calls.mono (C2.out _) ?_; rintro e w3 ⟨rfl, hb1⟩; (have HB3 := Lib.hid (below_trans HB2.out hb1 (Nat.le_refl _))); clear hb1))
      go_ret
      exact ⟨rfl, HB3.out⟩
  · have hx : inR a1 1 5 = false := by simpa using hx
    have HV := Lib.hid (show mRoom l a1 = 0 by unfold mRoom; rw [hx]; rfl)
    rw [HV.out]
    go_enter Try.func51, Try.ntmps51
    go_wp2_with (go_at_call 91; refine (impl_in _ _ _ _).mono ?_; rintro e w1 ⟨rfl, rfl⟩)
    go_ret
    exact ⟨rfl, Below.refl _ _⟩

end Go.Proofs.Ytlnmgfbfpjfddaa
