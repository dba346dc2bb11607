/- CanAddRule, of the program and of the model. -/
import Derived.Test.YtlnmgfbfpjfddaaRoom
import Derived.Test.YtlnmgfbfpjfddaaERule
import Derived.Test.YtlnmgfbfpjfddaaFun
import Derived.Deep.LoopGhost
import Derived.Deep.QuietTactic
import Derived.BigQuiet
namespace Go.Proofs.Ytlnmgfbfpjfddaa
open Go Go.ChangeShapes Go.WideShapes Go.ChangeAt Go.RowKit Go.Lib
set_option linter.unusedVariables false
set_option linter.unusedSimpArgs false
set_option maxRecDepth 100000
def mCan (l : List TRule) (r : TRule) : Bool := mIsRule r && !(l.any fun x => decide (r = x)) && decide (0 < mRoom l r.f0)
theorem rule_ext {r : TRule} (h : mIsRule r = true) : inR r.f0 1 5 = true := by
  simp only [mIsRule, Bool.and_eq_true] at h
  simp_all
theorem can_eq (l : List TRule) (r : TRule) : mCan l r = (!(l.any fun x => decide (r = x)) && (mIsRule r && decide (mCnt l r.f0 < 6) && decide (l.length < 20))) := by
  unfold mCan
  cases h : mIsRule r
  · simp
  · have hx := rule_ext h
    have : decide (0 < mRoom l r.f0) = (decide (mCnt l r.f0 < 6) && decide (l.length < 20)) := by
      unfold mRoom
      rw [if_pos hx]
      rw [Bool.eq_iff_iff]
      have key : ∀ m : Int, (0 < (if (0 : Int) < m then m else 0)) ↔ 0 < m := fun m => by split <;> omega
      have key2 : ∀ a b : Int, (0 < (if b < a then b else a)) ↔ (0 < a ∧ 0 < b) := fun a b => by split <;> omega
      simp only [mMax, mMin, decide_eq_true_eq, Bool.and_eq_true, key, key2]
      omega
    rw [this]
    simp [Bool.and_assoc]
theorem any_here {α : Type} {p : α → Bool} {l : List α} {k : Nat} {x : α} (hz : l[k]? = some x) (hq : p x = true) : l.any p = true :=
  List.any_eq_true.2 ⟨x, mem_of_get hz, hq⟩
theorem wf_f0 {r : TRule} (h : TRule.fit r) : (Lit.int .i64 r.f0).wf = true := by
  have := h.1
  simp [Lit.wf, IntKind.min, IntKind.max, IntKind.bits, IntKind.signed]
  omega

set_option maxHeartbeats 8000000 in
theorem impl_CanAddRule (l : List TRule) (A : Option Addr) (n c lo hi : Nat) (r : TRule) (w : World) (hn : n ≤ 1048576) (hr : Rd w lo hi 8 A n (cRule l)) (H : Hid (cRuleOk l)) (Hr : Hid (TRule.fit r)) :
    Calls Try.prog 49 #[.slice A n c, vRule r] w (Says (.bool (mCan l r)) w) := by
  have C0 := Lib.hid (fun W => impl_IsRule r W)
  have C1 := Lib.hid (fun W (hr : Rd W lo hi 8 A n (cRule l)) => contains_Rule r l A n c lo hi W (by omega) hr)
  have C2 := Lib.hid (fun W (hr : Rd W lo hi 8 A n (cRule l)) => impl_RoomFor l A n c lo hi r.f0 W hn hr H (wf_f0 Hr.out))
  have HR := Lib.hid hr
  clear hr
  unfold mCan
  generalize mIsRule r = b0 at C0 ⊢
  generalize (l.any fun x => decide (r = x)) = b1 at C1 ⊢
  generalize mRoom l r.f0 = z at C2 ⊢
  have KB0 : BoxAt (w.alloc (.cells #[.int .i64 r.f0, .int .i64 r.f1, .int .i64 r.f2, .int .i64 r.f3, .int .i64 r.f4, .int .i64 r.f5, .int .i64 r.f6, .int .i64 r.f7] 28)) w.heap.size 28 #[.int .i64 r.f0, .int .i64 r.f1, .int .i64 r.f2, .int .i64 r.f3, .int .i64 r.f4, .int .i64 r.f5, .int .i64 r.f6, .int .i64 r.f7] := (by simpa using box_new w 28 #[.int .i64 r.f0, .int .i64 r.f1, .int .i64 r.f2, .int .i64 r.f3, .int .i64 r.f4, .int .i64 r.f5, .int .i64 r.f6, .int .i64 r.f7] : BoxAt (w.alloc (.cells #[.int .i64 r.f0, .int .i64 r.f1, .int .i64 r.f2, .int .i64 r.f3, .int .i64 r.f4, .int .i64 r.f5, .int .i64 r.f6, .int .i64 r.f7] 28)) w.heap.size 28 #[.int .i64 r.f0, .int .i64 r.f1, .int .i64 r.f2, .int .i64 r.f3, .int .i64 r.f4, .int .i64 r.f5, .int .i64 r.f6, .int .i64 r.f7])
  have HBw : Below w.heap.size w (w.alloc (.cells #[.int .i64 r.f0, .int .i64 r.f1, .int .i64 r.f2, .int .i64 r.f3, .int .i64 r.f4, .int .i64 r.f5, .int .i64 r.f6, .int .i64 r.f7] 28)) := ((Below.refl _ _).alloc (by first | exact Nat.le_refl _ | (simp; done) | (simp; omega)) _)
  have HG := Lib.hid KB0
  have HB := Lib.hid HBw
  clear KB0 HBw
  cases b0
  · skip
    go_enter Try.func49, Try.ntmps49
    go_wp2_with fail
    refine Calls.mono (C0.out _) ?_
    rintro e w1 ⟨rfl, hb1⟩
    replace HG := Lib.hid ((HG.out).new hb1)
    replace HB := Lib.hid (below_trans (HB.out) hb1 (Nat.le_refl _))
    have lHG : w.heap.size < w1.heap.size := HG.out.lt
    have HR1 := Lib.hid ((HR.out.alloc (.cells #[.int .i64 r.f0, .int .i64 r.f1, .int .i64 r.f2, .int .i64 r.f3, .int .i64 r.f4, .int .i64 r.f5, .int .i64 r.f6, .int .i64 r.f7] 28)).new hb1)
    clear hb1
    have eHG0 := HG.out.at_ (j := 0) rfl
    have eHG1 := HG.out.at_ (j := 1) rfl
    have eHG2 := HG.out.at_ (j := 2) rfl
    have eHG3 := HG.out.at_ (j := 3) rfl
    have eHG4 := HG.out.at_ (j := 4) rfl
    have eHG5 := HG.out.at_ (j := 5) rfl
    have eHG6 := HG.out.at_ (j := 6) rfl
    have eHG7 := HG.out.at_ (j := 7) rfl
    go_wp2_with fail
    go_ret
    exact ⟨rfl, HB.out⟩
  · cases b1
    · skip
      go_enter Try.func49, Try.ntmps49
      go_wp2_with fail
      refine Calls.mono (C0.out _) ?_
      rintro e w1 ⟨rfl, hb1⟩
      replace HG := Lib.hid ((HG.out).new hb1)
      replace HB := Lib.hid (below_trans (HB.out) hb1 (Nat.le_refl _))
      have lHG : w.heap.size < w1.heap.size := HG.out.lt
      have HR1 := Lib.hid ((HR.out.alloc (.cells #[.int .i64 r.f0, .int .i64 r.f1, .int .i64 r.f2, .int .i64 r.f3, .int .i64 r.f4, .int .i64 r.f5, .int .i64 r.f6, .int .i64 r.f7] 28)).new hb1)
      clear hb1
      have eHG0 := HG.out.at_ (j := 0) rfl
      have eHG1 := HG.out.at_ (j := 1) rfl
      have eHG2 := HG.out.at_ (j := 2) rfl
      have eHG3 := HG.out.at_ (j := 3) rfl
      have eHG4 := HG.out.at_ (j := 4) rfl
      have eHG5 := HG.out.at_ (j := 5) rfl
      have eHG6 := HG.out.at_ (j := 6) rfl
      have eHG7 := HG.out.at_ (j := 7) rfl
      go_wp2_with fail
      refine Calls.mono (C1.out _ HR1.out) ?_
      rintro e w2 ⟨rfl, hb1⟩
      replace HG := Lib.hid ((HG.out).new hb1)
      replace HB := Lib.hid (below_trans (HB.out) hb1 (Nat.le_refl _))
      have lHG : w.heap.size < w2.heap.size := HG.out.lt
      have HR2 := Lib.hid (HR1.out.new hb1)
      clear hb1
      have eHG0 := HG.out.at_ (j := 0) rfl
      have eHG1 := HG.out.at_ (j := 1) rfl
      have eHG2 := HG.out.at_ (j := 2) rfl
      have eHG3 := HG.out.at_ (j := 3) rfl
      have eHG4 := HG.out.at_ (j := 4) rfl
      have eHG5 := HG.out.at_ (j := 5) rfl
      have eHG6 := HG.out.at_ (j := 6) rfl
      have eHG7 := HG.out.at_ (j := 7) rfl
      go_wp2_with fail
      refine Calls.mono (C2.out _ HR2.out) ?_
      rintro e w3 ⟨rfl, hb1⟩
      replace HG := Lib.hid ((HG.out).new hb1)
      replace HB := Lib.hid (below_trans (HB.out) hb1 (Nat.le_refl _))
      have lHG : w.heap.size < w3.heap.size := HG.out.lt
      clear hb1
      have eHG0 := HG.out.at_ (j := 0) rfl
      have eHG1 := HG.out.at_ (j := 1) rfl
      have eHG2 := HG.out.at_ (j := 2) rfl
      have eHG3 := HG.out.at_ (j := 3) rfl
      have eHG4 := HG.out.at_ (j := 4) rfl
      have eHG5 := HG.out.at_ (j := 5) rfl
      have eHG6 := HG.out.at_ (j := 6) rfl
      have eHG7 := HG.out.at_ (j := 7) rfl
      go_wp2_with fail
      go_ret
      exact ⟨rfl, HB.out⟩
    · skip
      go_enter Try.func49, Try.ntmps49
      go_wp2_with fail
      refine Calls.mono (C0.out _) ?_
      rintro e w1 ⟨rfl, hb1⟩
      replace HG := Lib.hid ((HG.out).new hb1)
      replace HB := Lib.hid (below_trans (HB.out) hb1 (Nat.le_refl _))
      have lHG : w.heap.size < w1.heap.size := HG.out.lt
      have HR1 := Lib.hid ((HR.out.alloc (.cells #[.int .i64 r.f0, .int .i64 r.f1, .int .i64 r.f2, .int .i64 r.f3, .int .i64 r.f4, .int .i64 r.f5, .int .i64 r.f6, .int .i64 r.f7] 28)).new hb1)
      clear hb1
      have eHG0 := HG.out.at_ (j := 0) rfl
      have eHG1 := HG.out.at_ (j := 1) rfl
      have eHG2 := HG.out.at_ (j := 2) rfl
      have eHG3 := HG.out.at_ (j := 3) rfl
      have eHG4 := HG.out.at_ (j := 4) rfl
      have eHG5 := HG.out.at_ (j := 5) rfl
      have eHG6 := HG.out.at_ (j := 6) rfl
      have eHG7 := HG.out.at_ (j := 7) rfl
      go_wp2_with fail
      refine Calls.mono (C1.out _ HR1.out) ?_
      rintro e w2 ⟨rfl, hb1⟩
      replace HG := Lib.hid ((HG.out).new hb1)
      replace HB := Lib.hid (below_trans (HB.out) hb1 (Nat.le_refl _))
      have lHG : w.heap.size < w2.heap.size := HG.out.lt
      have HR2 := Lib.hid (HR1.out.new hb1)
      clear hb1
      have eHG0 := HG.out.at_ (j := 0) rfl
      have eHG1 := HG.out.at_ (j := 1) rfl
      have eHG2 := HG.out.at_ (j := 2) rfl
      have eHG3 := HG.out.at_ (j := 3) rfl
      have eHG4 := HG.out.at_ (j := 4) rfl
      have eHG5 := HG.out.at_ (j := 5) rfl
      have eHG6 := HG.out.at_ (j := 6) rfl
      have eHG7 := HG.out.at_ (j := 7) rfl
      go_wp2_with fail
      go_ret
      exact ⟨rfl, HB.out⟩

set_option maxHeartbeats 20000000 in
theorem spec_CanAddRule (l : List TRule) (A : Option Addr) (n c lo hi : Nat) (r : TRule) (w : World) (hn : n ≤ 1048576) (hr : Rd w lo hi 8 A n (cRule l)) (H : Hid (cRuleOk l)) (Hr : Hid (TRule.fit r)) :
    Calls Try.prog 209 #[.slice A n c, vRule r] w (Says (.bool (mCan l r)) w) := by
  have HL := Lib.hid (rd_len TRule.len hr (by decide))
  have HBx := Lib.hid (box_new w 28 #[.int .i64 r.f0, .int .i64 r.f1, .int .i64 r.f2, .int .i64 r.f3, .int .i64 r.f4, .int .i64 r.f5, .int .i64 r.f6, .int .i64 r.f7])
  have C0 := Lib.hid (fun W => spec_IsRule r W)
  have C2 : ∀ W (hr : Rd W lo hi 8 A n (cRule l)), Calls Try.prog 212 #[.slice A n c, .int .i64 r.f0] W (Makes 28 8 (mCnt l r.f0) (cRule (l.filter fun x => x.f0 == r.f0)) W) := fun W hr => spec_RulesOf l A n c lo hi r.f0 W hn hr H (wf_f0 Hr.out)
  have HR := Lib.hid hr
  clear hr
  rw [can_eq]
  generalize mIsRule r = b0 at C0 ⊢
  generalize mCnt l r.f0 = c1 at C2 ⊢
  replace C2 := Lib.hid C2
  generalize hP : (fun x : TRule => decide (r = x)) = P
  have HP := Lib.hid hP
  clear hP
  go_enter Try.func209, Try.ntmps209
  go_wp2_with fail
  go_loopg [5] n (fun gg i wr => ∃ k : Nat, k ≤ n ∧ n - k ≤ gg ∧ i = .int .i64 k ∧ Hid (Below w.heap.size w wr) ∧ Hid (BoxAt wr w.heap.size 28 #[.int .i64 r.f0, .int .i64 r.f1, .int .i64 r.f2, .int .i64 r.f3, .int .i64 r.f4, .int .i64 r.f5, .int .i64 r.f6, .int .i64 r.f7]) ∧ Hid ((l.take k).any P = false))
  case atStart => exact ⟨0, Nat.zero_le _, by omega, rfl, Lib.hid ((Below.refl _ _).alloc (Nat.le_refl _) _), HBx, Lib.hid (by simp)⟩
  case round =>
    obtain ⟨k, hk, hg, rfl, HB, HX, HF⟩ := hrel
    have d0 : wr.cell? ⟨w.heap.size, 0, none⟩ = some (.int .i64 r.f0) := HX.out.at_ rfl
    have d1 : wr.cell? ⟨w.heap.size, 1, none⟩ = some (.int .i64 r.f1) := HX.out.at_ rfl
    have d2 : wr.cell? ⟨w.heap.size, 2, none⟩ = some (.int .i64 r.f2) := HX.out.at_ rfl
    have d3 : wr.cell? ⟨w.heap.size, 3, none⟩ = some (.int .i64 r.f3) := HX.out.at_ rfl
    have d4 : wr.cell? ⟨w.heap.size, 4, none⟩ = some (.int .i64 r.f4) := HX.out.at_ rfl
    have d5 : wr.cell? ⟨w.heap.size, 5, none⟩ = some (.int .i64 r.f5) := HX.out.at_ rfl
    have d6 : wr.cell? ⟨w.heap.size, 6, none⟩ = some (.int .i64 r.f6) := HX.out.at_ rfl
    have d7 : wr.cell? ⟨w.heap.size, 7, none⟩ = some (.int .i64 r.f7) := HX.out.at_ rfl
    have hlx := HX.out.lt
    by_cases hlt : k < n
    · obtain ⟨b, off, x, rfl, _, _, hz, hc⟩ := rd_elem TRule.len (HR.out.new HB.out) HL.out hlt
      have c0 : wr.cell? ⟨b, off + k * 8, none⟩ = some (.int .i64 x.f0) := hc 0 _ rfl
      have c1 : wr.cell? ⟨b, off + k * 8 + 1, none⟩ = some (.int .i64 x.f1) := hc 1 _ rfl
      have c2 : wr.cell? ⟨b, off + k * 8 + 2, none⟩ = some (.int .i64 x.f2) := hc 2 _ rfl
      have c3 : wr.cell? ⟨b, off + k * 8 + 3, none⟩ = some (.int .i64 x.f3) := hc 3 _ rfl
      have c4 : wr.cell? ⟨b, off + k * 8 + 4, none⟩ = some (.int .i64 x.f4) := hc 4 _ rfl
      have c5 : wr.cell? ⟨b, off + k * 8 + 5, none⟩ = some (.int .i64 x.f5) := hc 5 _ rfl
      have c6 : wr.cell? ⟨b, off + k * 8 + 6, none⟩ = some (.int .i64 x.f6) := hc 6 _ rfl
      have c7 : wr.cell? ⟨b, off + k * 8 + 7, none⟩ = some (.int .i64 x.f7) := hc 7 _ rfl
      have HZ := Lib.hid hz
      have HPx := Lib.hid (show decide (r = x) = P x by rw [← HP.out])
      clear hz hc
      by_cases e : x = r
      · have g1 : ∀ w, _ := fun w => (eql_Rule x r w).trans (by rw [decide_eq_true e])
        have HE := Lib.hid (any_here HZ.out (show P x = true by rw [← HPx.out, decide_eq_true e.symm]))
        clear e
        go_wp2_with fail
        go_quiet (fail)
        go_wp2_with fail
        go_ret
        exact ⟨by rw [HE.out]; rfl, by first | exact below_dN HB.out _ | exact HB.out⟩
      · have g1 : ∀ w, _ := fun w => (eql_Rule x r w).trans (by rw [decide_eq_false e])
        have HE := Lib.hid (any_step HF.out HZ.out (show P x = false by rw [← HPx.out, decide_eq_false (fun h => e h.symm)]))
        clear e
        go_wp2_with fail
        go_quiet (fail)
        go_wp2_with fail
        go_roundg (n - (k + 1))
        case measure => omega
        case rel => exact ⟨k + 1, by omega, by omega, by go_num, Lib.hid (below_dN HB.out _), Lib.hid HX.out, HE⟩
    · obtain rfl : k = n := by omega
      have HE := Lib.hid (show l.any P = false by have := HF.out; rw [List.take_of_length_le (by have := HL.out; omega)] at this; exact this)
      replace HR := Lib.hid (HR.out.new HB.out)
      cases b0
      · replace HE := Lib.hid (show (!l.any P && (false && decide (c1 < 6) && decide (l.length < 20))) = false by simp)
        go_wp2_with fail
        refine Calls.mono (C0.out _) ?_
        rintro e w6 ⟨rfl, hb1⟩
        replace HX := Lib.hid ((HX.out).new hb1)
        replace HB := Lib.hid (below_trans (HB.out) hb1 (Nat.le_refl _))
        have lHX : w.heap.size < w6.heap.size := HX.out.lt
        replace HR := Lib.hid (HR.out.new hb1)
        clear hb1
        have eHX0 := HX.out.at_ (j := 0) rfl
        have eHX1 := HX.out.at_ (j := 1) rfl
        have eHX2 := HX.out.at_ (j := 2) rfl
        have eHX3 := HX.out.at_ (j := 3) rfl
        have eHX4 := HX.out.at_ (j := 4) rfl
        have eHX5 := HX.out.at_ (j := 5) rfl
        have eHX6 := HX.out.at_ (j := 6) rfl
        have eHX7 := HX.out.at_ (j := 7) rfl
        go_wp2_with fail
        go_ret
        exact ⟨by rw [HE.out]; rfl, HB.out⟩
      · by_cases h6 : c1 < 6
        · have h6' : decide ((c1 : Int) < 6) = true := by simp; omega
          by_cases h20 : k < 20
          · have h20' : decide ((k : Int) < 20) = true := by simp; omega
            replace HE := Lib.hid (show (!l.any P && (true && decide (c1 < 6) && decide (l.length < 20))) = true by rw [HE.out]; have := HL.out; simp; omega)
            go_wp2_with fail
            refine Calls.mono (C0.out _) ?_
            rintro e w6 ⟨rfl, hb1⟩
            replace HX := Lib.hid ((HX.out).new hb1)
            replace HB := Lib.hid (below_trans (HB.out) hb1 (Nat.le_refl _))
            have lHX : w.heap.size < w6.heap.size := HX.out.lt
            replace HR := Lib.hid (HR.out.new hb1)
            clear hb1
            have eHX0 := HX.out.at_ (j := 0) rfl
            have eHX1 := HX.out.at_ (j := 1) rfl
            have eHX2 := HX.out.at_ (j := 2) rfl
            have eHX3 := HX.out.at_ (j := 3) rfl
            have eHX4 := HX.out.at_ (j := 4) rfl
            have eHX5 := HX.out.at_ (j := 5) rfl
            have eHX6 := HX.out.at_ (j := 6) rfl
            have eHX7 := HX.out.at_ (j := 7) rfl
            go_wp2_with fail
            refine Calls.mono (C2.out _ HR.out) ?_
            rintro e w9 ⟨A', c', rfl, hF, hb1⟩
            replace HB := Lib.hid (below_trans HB.out hb1 (Nat.le_refl _))
            clear hb1 hF
            go_wp2_with fail
            go_ret
            exact ⟨by rw [HE.out]; rfl, HB.out⟩
          · have h20' : decide ((k : Int) < 20) = false := by simp; omega
            replace HE := Lib.hid (show (!l.any P && (true && decide (c1 < 6) && decide (l.length < 20))) = false by rw [HE.out]; have := HL.out; simp; omega)
            go_wp2_with fail
            refine Calls.mono (C0.out _) ?_
            rintro e w6 ⟨rfl, hb1⟩
            replace HX := Lib.hid ((HX.out).new hb1)
            replace HB := Lib.hid (below_trans (HB.out) hb1 (Nat.le_refl _))
            have lHX : w.heap.size < w6.heap.size := HX.out.lt
            replace HR := Lib.hid (HR.out.new hb1)
            clear hb1
            have eHX0 := HX.out.at_ (j := 0) rfl
            have eHX1 := HX.out.at_ (j := 1) rfl
            have eHX2 := HX.out.at_ (j := 2) rfl
            have eHX3 := HX.out.at_ (j := 3) rfl
            have eHX4 := HX.out.at_ (j := 4) rfl
            have eHX5 := HX.out.at_ (j := 5) rfl
            have eHX6 := HX.out.at_ (j := 6) rfl
            have eHX7 := HX.out.at_ (j := 7) rfl
            go_wp2_with fail
            refine Calls.mono (C2.out _ HR.out) ?_
            rintro e w9 ⟨A', c', rfl, hF, hb1⟩
            replace HB := Lib.hid (below_trans HB.out hb1 (Nat.le_refl _))
            clear hb1 hF
            go_wp2_with fail
            go_ret
            exact ⟨by rw [HE.out]; rfl, HB.out⟩
        · have h6' : decide ((c1 : Int) < 6) = false := by simp; omega
          replace HE := Lib.hid (show (!l.any P && (true && decide (c1 < 6) && decide (l.length < 20))) = false by simp; omega)
          go_wp2_with fail
          refine Calls.mono (C0.out _) ?_
          rintro e w6 ⟨rfl, hb1⟩
          replace HX := Lib.hid ((HX.out).new hb1)
          replace HB := Lib.hid (below_trans (HB.out) hb1 (Nat.le_refl _))
          have lHX : w.heap.size < w6.heap.size := HX.out.lt
          replace HR := Lib.hid (HR.out.new hb1)
          clear hb1
          have eHX0 := HX.out.at_ (j := 0) rfl
          have eHX1 := HX.out.at_ (j := 1) rfl
          have eHX2 := HX.out.at_ (j := 2) rfl
          have eHX3 := HX.out.at_ (j := 3) rfl
          have eHX4 := HX.out.at_ (j := 4) rfl
          have eHX5 := HX.out.at_ (j := 5) rfl
          have eHX6 := HX.out.at_ (j := 6) rfl
          have eHX7 := HX.out.at_ (j := 7) rfl
          go_wp2_with fail
          refine Calls.mono (C2.out _ HR.out) ?_
          rintro e w9 ⟨A', c', rfl, hF, hb1⟩
          replace HB := Lib.hid (below_trans HB.out hb1 (Nat.le_refl _))
          clear hb1 hF
          go_wp2_with fail
          go_ret
          exact ⟨by rw [HE.out]; rfl, HB.out⟩
end Go.Proofs.Ytlnmgfbfpjfddaa
