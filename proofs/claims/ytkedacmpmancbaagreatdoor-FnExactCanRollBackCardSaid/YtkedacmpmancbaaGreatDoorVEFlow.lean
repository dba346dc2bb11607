/- EFlow, what is needed of it. -/
import Derived.Test.YtkedacmpmancbaaGreatDoorVTFlow
import Derived.Test.YtkedacmpmancbaaGreatDoorVFun
import Derived.BigQuiet
import Derived.Deep.QuietTactic
import Derived.WalkSpells
import Derived.Lib.SliceRun
namespace Go.Proofs.YtkedacmpmancbaaGreatDoor
open Go Go.ChangeShapes Go.WideShapes Go.ChangeAt Go.RowKit Go.Lib
set_option linter.unusedVariables false
set_option linter.unusedSimpArgs false
set_option maxRecDepth 100000

set_option maxHeartbeats 8000000 in
theorem indexEq_Flow (z : TFlow) (l : List TFlow) (A : Option Addr) (n c lo hi : Nat) (w : World) (hn : n ≤ 17592186044416) (hr : Rd w lo hi 3 A n (cFlow l)) :
  Calls Tryz.prog 190 #[.slice A n c, .agg #[.int .i64 z.f0, .int .i64 z.f1, .int .i64 z.f2]] w (Says (.int .i64 (idxP (fun x => decide (z = x)) l)) w) := by
 have HL := Lib.hid (rd_len TFlow.len hr (by decide))
 have HR := Lib.hid hr
 have HBx := Lib.hid (box_new w 109 #[.int .i64 z.f0, .int .i64 z.f1, .int .i64 z.f2])
 clear hr
 generalize hP : (fun x : TFlow => decide (z = x)) = P
 have HP := Lib.hid hP
 clear hP
 go_enter Tryz.func190, Tryz.ntmps190
 go_wp2_with fail
 go_loopg [5, 8] n (fun gg _ i wr => ∃ k : Nat, k ≤ n ∧ n - k ≤ gg ∧ i = .int .i64 k ∧ Hid (Below w.heap.size w wr) ∧ Hid (BoxAt wr w.heap.size 109 #[.int .i64 z.f0, .int .i64 z.f1, .int .i64 z.f2]) ∧ Hid ((l.take k).any P = false))
 case atStart => exact ⟨0, Nat.zero_le _, by omega, rfl, Lib.hid ((Below.refl _ _).alloc (Nat.le_refl _) _), HBx, Lib.hid (by simp)⟩
 case round =>
  obtain ⟨k, hk, hg, rfl, HB, HX, HF⟩ := hrel
  by_cases hlt : k < n
  ·
   obtain ⟨b, off, x, rfl, _, _, hz, hc⟩ := rd_elem TFlow.len (HR.out.new HB.out) HL.out hlt
   have c0 : wr.cell? ⟨b, off + k * 3, none⟩ = _ := hc 0 _ rfl
   have c1 := hc 1 _ rfl
   have c2 := hc 2 _ rfl
   have d0 : wr.cell? ⟨w.heap.size, 0, none⟩ = _ := HX.out.at_ rfl
   have d1 : wr.cell? ⟨w.heap.size, 1, none⟩ = _ := HX.out.at_ rfl
   have d2 : wr.cell? ⟨w.heap.size, 2, none⟩ = _ := HX.out.at_ rfl
   have HZ := Lib.hid hz
   have HPx := Lib.hid (show decide (z = x) = P x by rw [← HP.out])
   clear hz hc
   by_cases e : z = x
   ·
    have g1 : ∀ w, _ := fun w => (eql_Flow z x w).trans (by rw [decide_eq_true e])
    have HE := Lib.hid (idxP_hit HF.out HZ.out (by rw [← HPx.out, decide_eq_true e]))
    clear e
    go_wp2_with fail
    go_quiet (fail)
    go_wp2_with fail
    go_ret
    exact ⟨by rw [HE.out]; rfl, by first | exact below_dN HB.out _ | exact HB.out⟩
   ·
    have g1 : ∀ w, _ := fun w => (eql_Flow z x w).trans (by rw [decide_eq_false e])
    have HE := Lib.hid (any_step HF.out HZ.out (by rw [← HPx.out, decide_eq_false e]))
    clear e
    go_wp2_with fail
    go_quiet (fail)
    go_wp2_with fail
    go_roundg (n - (k + 1))
    case measure => omega
    case rel => exact ⟨k + 1, by omega, by omega, by go_num, Lib.hid (below_dN HB.out _), Lib.hid HX.out, HE⟩
  ·
   obtain rfl : k = n := by omega
   have HE := Lib.hid (idxP_miss (by have := HF.out; rw [List.take_of_length_le (by have := HL.out; omega)] at this; exact this))
   go_wp2_with fail
   go_ret
   exact ⟨by rw [HE.out]; rfl, by first | exact below_dN HB.out _ | exact HB.out⟩
set_option maxHeartbeats 8000000 in
theorem contains_Flow (z : TFlow) (l : List TFlow) (A : Option Addr) (n c lo hi : Nat) (w : World) (hn : n ≤ 17592186044416) (hr : Rd w lo hi 3 A n (cFlow l)) :
  Calls Tryz.prog 158 #[.slice A n c, .agg #[.int .i64 z.f0, .int .i64 z.f1, .int .i64 z.f2]] w (Says (.bool (l.any fun x => decide (z = x))) w) := by
 have HC := Lib.hid (fun W h => indexEq_Flow z l A n c lo hi W hn h)
 have HR := Lib.hid hr
 clear hr
 cases hq : l.any (fun x => decide (z = x)) with
 | true =>
  have hx := idxP_nonneg hq
  generalize idxP (fun x => decide (z = x)) l = r at HC hx
  clear hq
  have hd : decide (r ≥ 0) = true := by simp; omega
  go_enter Tryz.func158, Tryz.ntmps158
  go_wp2_with fail
  refine Calls.mono (HC.out _ (HR.out.alloc _)) ?_
  rintro e w1 ⟨rfl, hb1⟩
  have HB1 := Lib.hid hb1
  clear hb1
  go_wp2_with fail
  go_ret
  exact ⟨rfl, below_step ((Below.refl _ _).alloc (Nat.le_refl _) _) HB1 (by simp)⟩
 | false =>
  have hx := idxP_miss hq
  rw [hx] at HC
  clear hx hq
  go_enter Tryz.func158, Tryz.ntmps158
  go_wp2_with fail
  refine Calls.mono (HC.out _ (HR.out.alloc _)) ?_
  rintro e w1 ⟨rfl, hb1⟩
  have HB1 := Lib.hid hb1
  clear hb1
  go_wp2_with fail
  go_ret
  exact ⟨rfl, below_step ((Below.refl _ _).alloc (Nat.le_refl _) _) HB1 (by simp)⟩
theorem icFlow : (Tryz.prog.info? 109).map (fun i => (i.zero, i.size, i.bytes)) = some (some (.agg #[.int .i64 0, .int .i64 0, .int .i64 0]), 3, 24) := by kernel_rfl
theorem ocFlow (l : List TFlow) : ∀ u ∈ cFlow l, u.oneCell' = true := by
 intro u hu
 obtain ⟨x, _, hx⟩ := List.mem_flatMap.1 hu
 simp only [TFlow.cells, List.mem_cons, List.not_mem_nil, or_false] at hx
 rcases hx with rfl | rfl | rfl <;> rfl
set_option maxHeartbeats 4000000 in
theorem clone_Flow (l : List TFlow) (A : Option Addr) (n c lo hi : Nat) (w : World) (hn : n ≤ 1048576) (hr : Rd w lo hi 3 A n (cFlow l)) :
  Calls Tryz.prog 107 #[.slice A n c] w (MakesO 109 3 n (cFlow l) w) := by
 have qT : ∀ (w : World) (a : Option Addr) (n c n' c' : Nat), (binOp .eql 31 (.slice a n c) (.slice none n' c')).run Tryz.prog w = .ok (.bool a.isNone) w := fun w a n c n' c' => Lib.run_eql_slice_nil w _ _ a n c n' c' Tryz.underlying31
 rcases A with _ | a
 ·
  have hz : n = 0 := by
   rcases Nat.eq_zero_or_pos n with h0 | h0
   ·
    exact h0
   ·
    obtain ⟨_, _, h, _⟩ := hr.2 h0
    cases h
  subst hz
  have hl : cFlow l = [] := List.eq_nil_of_length_eq_zero (by simpa using hr.1)
  rw [hl]
  clear hl hr
  go_enter Tryz.func107, Tryz.ntmps107
  go_wp2
  go_ret
  exact ⟨_, rfl, World.ownsRow_nil w _ _ _, Below.refl _ _⟩
 ·
  have HR := Lib.hid hr
  have HO := Lib.hid (World.ownsRow_lit (e := 109) (size := 3) w #[] 0 (Nat.le_refl _) (by unfold maxLen; omega) rfl)
  clear hr
  go_enter Tryz.func107, Tryz.ntmps107
  go_wp2_with (at_builtin; refine wp_app rfl _ _ _ rfl w.heap.size 109 (.agg #[.int .i64 0, .int .i64 0, .int .i64 0]) 3 24 Tryz.underlying31 icFlow rfl (by decide) _ _ _ rfl HO.out lo hi (some a) n c (cFlow l) rfl (HR.out.alloc _) (ocFlow l) (by unfold maxLen; omega) (by omega) (by simp) ?_; intro v1 w1 ho1 hb1 _ _; have HO1 := Lib.hid ho1; have HB1 := Lib.hid (((Below.refl w.heap.size w).alloc (Nat.le_refl _) _).trans hb1); clear ho1 hb1)
  go_ret
  exact ⟨_, rfl, by simpa using HO1.out, HB1.out⟩
end Go.Proofs.YtkedacmpmancbaaGreatDoor
