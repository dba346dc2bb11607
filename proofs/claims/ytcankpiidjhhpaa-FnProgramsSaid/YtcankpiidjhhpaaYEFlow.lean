/- EFlow, what is needed of it. -/
import Derived.Test.YtcankpiidjhhpaaYGd
import Derived.Test.YtcankpiidjhhpaaYGc
import Derived.BigQuiet
import Derived.Deep.QuietTactic
import Derived.WalkSpells
import Derived.Lib.SliceRun
namespace Go.Proofs.Ytcankpiidjhhpaa
open Go Go.ChangeShapes Go.WideShapes Go.ChangeAt Go.RowKit Go.Lib
set_option linter.unusedVariables false
set_option linter.unusedSimpArgs false
set_option maxRecDepth 100000

set_option maxHeartbeats 8000000 in
theorem indexEq_Flow (z : TFlow) (l : List TFlow) (A : Option Addr) (n c lo hi : Nat) (w : World) (hn : n ≤ 17592186044416) (hr : Rd w lo hi 3 A n (cFlow l)) :
  Calls Try.prog 99 #[.slice A n c, .agg #[.int .i64 z.f0, .int .i64 z.f1, .int .i64 z.f2]] w (Says (.int .i64 (idxP (fun x => decide (z = x)) l)) w) := by
 have HL := Lib.hid (rd_len TFlow.len hr (by decide))
 have HR := Lib.hid hr
 have HBx := Lib.hid (box_new w 87 #[.int .i64 z.f0, .int .i64 z.f1, .int .i64 z.f2])
 clear hr
 generalize hP : (fun x : TFlow => decide (z = x)) = P
 have HP := Lib.hid hP
 clear hP
 go_enter Try.func99, Try.ntmps99
 go_wp2_with fail
 go_loopg [5, 8] n (fun gg _ i wr => ∃ k : Nat, k ≤ n ∧ n - k ≤ gg ∧ i = .int .i64 k ∧ Hid (Below w.heap.size w wr) ∧ Hid (BoxAt wr w.heap.size 87 #[.int .i64 z.f0, .int .i64 z.f1, .int .i64 z.f2]) ∧ Hid ((l.take k).any P = false))
 case atStart => exact ⟨0, Nat.zero_le _, by omega, rfl, Lib.hid ((Below.refl _ _).alloc (Nat.le_refl _) _), HBx, Lib.hid (by simp)⟩
 case round =>
  obtain ⟨k, hk, hg, rfl, HB, HX, HF⟩ := hrel
  by_cases hlt : k < n
  ·
   obtain ⟨b, off, x, rfl, _, _, hz, hc⟩ := rd_elem TFlow.len (HR.out.new HB.out) HL.out hlt
   have c0 : wr.cell? ⟨b, off + k * 3, none⟩ = _ := hc 0 _ rfl
   have c1 := hc 1 _ rfl
   have c2 := hc 2 _ rfl
   have d0 : wr.cell? ⟨w.heap.size, 0, none⟩ = _ := HX.out.at_ rfl
   have d1 : wr.cell? ⟨w.heap.size, 1, none⟩ = _ := HX.out.at_ rfl
   have d2 : wr.cell? ⟨w.heap.size, 2, none⟩ = _ := HX.out.at_ rfl
   have HZ := Lib.hid hz
   have HPx := Lib.hid (show decide (z = x) = P x by rw [← HP.out])
   clear hz hc
   by_cases e : z = x
   ·
    have g1 : ∀ w, _ := fun w => (eql_Flow z x w).trans (by rw [decide_eq_true e])
    have HE := Lib.hid (idxP_hit HF.out HZ.out (by rw [← HPx.out, decide_eq_true e]))
    clear e
    go_wp2_with fail
    go_quiet (fail)
    go_wp2_with fail
    go_ret
    exact ⟨by rw [HE.out]; rfl, by first | exact below_dN HB.out _ | exact HB.out⟩
   ·
    have g1 : ∀ w, _ := fun w => (eql_Flow z x w).trans (by rw [decide_eq_false e])
    have HE := Lib.hid (any_step HF.out HZ.out (by rw [← HPx.out, decide_eq_false e]))
    clear e
    go_wp2_with fail
    go_quiet (fail)
    go_wp2_with fail
    go_roundg (n - (k + 1))
    case measure => omega
    case rel => exact ⟨k + 1, by omega, by omega, by go_num, Lib.hid (below_dN HB.out _), Lib.hid HX.out, HE⟩
  ·
   obtain rfl : k = n := by omega
   have HE := Lib.hid (idxP_miss (by have := HF.out; rw [List.take_of_length_le (by have := HL.out; omega)] at this; exact this))
   go_wp2_with fail
   go_ret
   exact ⟨by rw [HE.out]; rfl, by first | exact below_dN HB.out _ | exact HB.out⟩
set_option maxHeartbeats 8000000 in
theorem contains_Flow (z : TFlow) (l : List TFlow) (A : Option Addr) (n c lo hi : Nat) (w : World) (hn : n ≤ 17592186044416) (hr : Rd w lo hi 3 A n (cFlow l)) :
  Calls Try.prog 69 #[.slice A n c, .agg #[.int .i64 z.f0, .int .i64 z.f1, .int .i64 z.f2]] w (Says (.bool (l.any fun x => decide (z = x))) w) := by
 have HC := Lib.hid (fun W h => indexEq_Flow z l A n c lo hi W hn h)
 have HR := Lib.hid hr
 clear hr
 cases hq : l.any (fun x => decide (z = x)) with
 | true =>
  have hx := idxP_nonneg hq
  generalize idxP (fun x => decide (z = x)) l = r at HC hx
  clear hq
  have hd : decide (r ≥ 0) = true := by simp; omega
  go_enter Try.func69, Try.ntmps69
  go_wp2_with fail
  refine Calls.mono (HC.out _ (HR.out.alloc _)) ?_
  rintro e w1 ⟨rfl, hb1⟩
  have HB1 := Lib.hid hb1
  clear hb1
  go_wp2_with fail
  go_ret
  exact ⟨rfl, below_step ((Below.refl _ _).alloc (Nat.le_refl _) _) HB1 (by simp)⟩
 | false =>
  have hx := idxP_miss hq
  rw [hx] at HC
  clear hx hq
  go_enter Try.func69, Try.ntmps69
  go_wp2_with fail
  refine Calls.mono (HC.out _ (HR.out.alloc _)) ?_
  rintro e w1 ⟨rfl, hb1⟩
  have HB1 := Lib.hid hb1
  clear hb1
  go_wp2_with fail
  go_ret
  exact ⟨rfl, below_step ((Below.refl _ _).alloc (Nat.le_refl _) _) HB1 (by simp)⟩
end Go.Proofs.Ytcankpiidjhhpaa
