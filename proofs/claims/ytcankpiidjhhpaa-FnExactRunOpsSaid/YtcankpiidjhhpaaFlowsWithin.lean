/- FlowsWithin, of the program and of the model. -/
import Derived.Test.YtcankpiidjhhpaaFlow
import Derived.Test.YtcankpiidjhhpaaEFlow
import Derived.Test.YtcankpiidjhhpaaAFlow
namespace Go.Proofs.Ytcankpiidjhhpaa
open Go Go.ChangeShapes Go.WideShapes Go.ChangeAt Go.RowKit Go.Lib
set_option linter.unusedVariables false
set_option linter.unusedSimpArgs false
set_option maxRecDepth 100000
def pFW (b : List TFlow) (x : TFlow) : Bool := mIsFlow x && b.any fun y => decide (x = y)
theorem all_step {α : Type} {p : α → Bool} {l : List α} {k : Nat} {x : α} (h : (l.take k).all p = true) (hz : l[k]? = some x) (hq : p x = true) : (l.take (k + 1)).all p = true := by
 rw [List.take_add_one, hz, List.all_append, h]; simp [hq]
theorem all_fails {α : Type} {p : α → Bool} {l : List α} {k : Nat} {x : α} (hz : l[k]? = some x) (hq : p x = false) : l.all p = false :=
 List.all_eq_false.2 ⟨x, List.mem_of_getElem? hz, by rw [hq]; simp⟩
theorem any_at {α : Type} {p : α → Bool} {l : List α} {k : Nat} {x : α} (hz : l[k]? = some x) (hq : p x = true) : l.any p = true :=
 List.any_eq_true.2 ⟨x, List.mem_of_getElem? hz, hq⟩
set_option maxHeartbeats 8000000 in
theorem spec_has (z : TFlow) (l : List TFlow) (A : Option Addr) (n c lo hi : Nat) (w : World) (hn : n ≤ 17592186044416) (hr : Rd w lo hi 3 A n (cFlow l)) :
  Calls Try.prog 56 #[.slice A n c, vFlow z] w (Says (.bool (l.any fun x => decide (z = x))) w) := by
 have HL := Lib.hid (rd_len TFlow.len hr (by decide))
 have HR := Lib.hid hr
 have HBx := Lib.hid (box_new w 87 #[.int .i64 z.f0, .int .i64 z.f1, .int .i64 z.f2])
 clear hr
 generalize hP : (fun x : TFlow => decide (z = x)) = P
 have HP := Lib.hid hP
 clear hP
 go_enter Try.func56, Try.ntmps56
 go_wp2_with fail
 go_loopg [5] n (fun gg i wr => ∃ k : Nat, k ≤ n ∧ n - k ≤ gg ∧ i = .int .i64 k ∧ Hid (Below w.heap.size w wr) ∧ Hid (BoxAt wr w.heap.size 87 #[.int .i64 z.f0, .int .i64 z.f1, .int .i64 z.f2]) ∧ Hid ((l.take k).any P = false))
 case atStart => exact ⟨0, Nat.zero_le _, by omega, rfl, Lib.hid ((Below.refl _ _).alloc (Nat.le_refl _) _), HBx, Lib.hid (by simp)⟩
 case round =>
  obtain ⟨k, hk, hg, rfl, HB, HX, HF⟩ := hrel
  by_cases hlt : k < n
  ·
   obtain ⟨b, off, x, rfl, _, _, hz, hc⟩ := rd_elem TFlow.len (HR.out.new HB.out) HL.out hlt
   have c0 : wr.cell? ⟨b, off + k * 3, none⟩ = _ := hc 0 _ rfl
   have c1 := hc 1 _ rfl
   have c2 := hc 2 _ rfl
   have d0 : wr.cell? ⟨w.heap.size, 0, none⟩ = _ := HX.out.at_ rfl
   have d1 : wr.cell? ⟨w.heap.size, 1, none⟩ = _ := HX.out.at_ rfl
   have d2 : wr.cell? ⟨w.heap.size, 2, none⟩ = _ := HX.out.at_ rfl
   have HZ := Lib.hid hz
   have HPx := Lib.hid (show decide (z = x) = P x by rw [← HP.out])
   clear hz hc
   by_cases e : x = z
   ·
    have g1 : ∀ w, _ := fun w => (eql_Flow x z w).trans (by rw [decide_eq_true e])
    have HE := Lib.hid (any_at HZ.out (show P x = true by rw [← HPx.out, decide_eq_true e.symm]))
    clear e
    go_wp2_with fail
    go_quiet (fail)
    go_wp2_with fail
    go_ret
    exact ⟨by rw [HE.out]; rfl, by first | exact below_dN HB.out _ | exact HB.out⟩
   ·
    have g1 : ∀ w, _ := fun w => (eql_Flow x z w).trans (by rw [decide_eq_false e])
    have HE := Lib.hid (any_step HF.out HZ.out (show P x = false by rw [← HPx.out, decide_eq_false (fun h => e h.symm)]))
    clear e
    go_wp2_with fail
    go_quiet (fail)
    go_wp2_with fail
    go_roundg (n - (k + 1))
    case measure => omega
    case rel => exact ⟨k + 1, by omega, by omega, by go_num, Lib.hid (below_dN HB.out _), Lib.hid HX.out, HE⟩
  ·
   obtain rfl : k = n := by omega
   have HE := Lib.hid (show l.any P = false by have := HF.out; rw [List.take_of_length_le (by have := HL.out; omega)] at this; exact this)
   go_wp2_with fail
   go_ret
   exact ⟨by rw [HE.out]; rfl, by first | exact below_dN HB.out _ | exact HB.out⟩
set_option maxHeartbeats 8000000 in
theorem clo_FlowsWithin (B : Nat) (l l1 : List TFlow) (A1 : Option Addr) (n1 cc1 lo1 hi1 : Nat) (w : World) (hq : w.cell? ⟨B, 0, none⟩ = some (.slice A1 n1 cc1)) (hn1 : n1 ≤ 1048576) (hr1 : Rd w lo1 hi1 3 A1 n1 (cFlow l1)) :
  PredB Try.prog 67 #[.pointer (some ⟨B, 0, none⟩)] (fun x : TFlow => vFlow x) (pFW l1) l w := fun W x _ hb => by
 have q0 := cell_nw hb hq
 have HR1 := Lib.hid (hr1.new hb)
 have m0 : B < W.heap.size := World.block_lt_of_cell? _ _ q0
 have n0 : B ≠ W.heap.size := Nat.ne_of_lt m0
 have hbx := box_new W 87 #[.int .i64 x.f0, .int .i64 x.f1, .int .i64 x.f2]
 have e0 : (W.alloc (.cells #[.int .i64 x.f0, .int .i64 x.f1, .int .i64 x.f2] 87)).cell? ⟨W.heap.size, 0, none⟩ = some (.int .i64 x.f0) := hbx.at_ rfl
 have e1 : (W.alloc (.cells #[.int .i64 x.f0, .int .i64 x.f1, .int .i64 x.f2] 87)).cell? ⟨W.heap.size, 1, none⟩ = some (.int .i64 x.f1) := hbx.at_ rfl
 have e2 : (W.alloc (.cells #[.int .i64 x.f0, .int .i64 x.f1, .int .i64 x.f2] 87)).cell? ⟨W.heap.size, 2, none⟩ = some (.int .i64 x.f2) := hbx.at_ rfl
 have E := Lib.hid (And.intro e0 (And.intro e1 e2))
 have Q := Lib.hid q0
 clear hb hq hr1 hbx e0 e1 e2 q0
 change Calls Try.prog _ #[vFlow x, .pointer (some ⟨B, 0, none⟩)] _ (Says (.bool (pFW l1 x)) W)
 unfold pFW
 cases h0 : mIsFlow x with
 | false =>
  have HI : Hid (∀ W, Calls Try.prog 68 #[vFlow x] W (Says (.bool false) W)) := Lib.hid fun W => by have := impl_IsFlow x W; rwa [h0] at this
  clear h0
  go_enter Try.func67, Try.ntmps67
  go_wp2_with fail
  refine (HI.out _).mono ?_
  rintro e w1 ⟨rfl, hb1⟩
  have HB1 := Lib.hid (below_trans ((Below.refl _ _).alloc (Nat.le_refl _) _) hb1 (by simp))
  clear hb1
  go_wp2_with fail
  go_ret
  exact ⟨rfl, HB1.out⟩
 | true =>
  have HI : Hid (∀ W, Calls Try.prog 68 #[vFlow x] W (Says (.bool true) W)) := Lib.hid fun W => by have := impl_IsFlow x W; rwa [h0] at this
  clear h0
  have HS : Hid (∀ W, Rd W lo1 hi1 3 A1 n1 (cFlow l1) → Calls Try.prog 69 #[.slice A1 n1 cc1, vFlow x] W (Says (.bool (l1.any fun y => decide (x = y))) W)) := Lib.hid fun W h => contains_Flow x l1 A1 n1 cc1 lo1 hi1 W (by omega) h
  rw [Bool.true_and]
  generalize (l1.any fun y => decide (x = y)) = q at HS ⊢
  cases q
  all_goals
   go_enter Try.func67, Try.ntmps67
   go_wp2_with fail
   refine (HI.out _).mono ?_
   rintro e w1 ⟨rfl, hb1⟩
   have d0 := cell_nw hb1 E.out.1
   have d1 := cell_nw hb1 E.out.2.1
   have d2 := cell_nw hb1 E.out.2.2
   have d3 := cell_nw hb1 (cell_al Q.out)
   have HR2 := Lib.hid ((HR1.out.alloc _).new hb1)
   have HB1 := Lib.hid (below_trans ((Below.refl _ _).alloc (Nat.le_refl _) _) hb1 (by simp))
   clear hb1
   go_wp2_with fail
   refine (HS.out _ HR2.out).mono ?_
   rintro e w2 ⟨rfl, hb2⟩
   have HB2 := Lib.hid (below_trans HB1.out hb2 (Nat.le_refl _))
   clear hb2 d0 d1 d2 d3
   go_wp2_with fail
   go_ret
   exact ⟨rfl, HB2.out⟩
set_option maxHeartbeats 8000000 in
theorem impl_FlowsWithinC (l : List TFlow) (A : Option Addr) (n c lo hi : Nat) (l1 : List TFlow) (A1 : Option Addr) (n1 cc1 lo1 hi1 : Nat) (w : World) (hn : n ≤ 1048576) (hr : Rd w lo hi 3 A n (cFlow l)) (hcap : n ≤ c) (H : Hid (cFlowOk l)) (hn1 : n1 ≤ 1048576) (hr1 : Rd w lo1 hi1 3 A1 n1 (cFlow l1)) (hcap1 : n1 ≤ cc1) (H1 : Hid (cFlowOk l1)) :
  Calls Try.prog 18 #[.slice A n c, .slice A1 n1 cc1] w (Says (.bool (l.all (pFW l1))) w) := by
 have hmf : ∀ (fn : Fn) (first cap : Array Value) (w : World), (Instr.makeFunc fn first cap).run Try.prog w = .ok (.func fn first cap) w := fun _ _ _ _ => rfl
 have HC := all_Flow (pFW l1) #[.pointer (some ⟨w.heap.size, 0, none⟩)] l A n c lo hi (w.alloc (.cells #[.slice A1 n1 cc1] 24)) (by omega) hcap (hr.alloc _)
  (clo_FlowsWithin w.heap.size l l1 A1 n1 cc1 lo1 hi1 _ (cell_newest (by simp) rfl) hn1 (hr1.alloc _))
 have HC := Lib.hid HC
 clear hr hr1
 generalize l.all (pFW l1) = q at HC ⊢
 go_enter Try.func18, Try.ntmps18
 go_wp2_with fail
 refine HC.out.mono ?_
 rintro e w1 ⟨rfl, hb1⟩
 have HB1 := Lib.hid (below_trans ((Below.refl _ _).alloc (Nat.le_refl _) _) hb1 (by simp))
 clear hb1
 go_wp2_with fail
 go_ret
 exact ⟨rfl, HB1.out⟩
end Go.Proofs.Ytcankpiidjhhpaa
