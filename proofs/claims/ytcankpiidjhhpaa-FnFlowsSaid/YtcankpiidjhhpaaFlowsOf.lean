/- FlowsOf, of the program and of the model. -/
import Derived.Test.YtcankpiidjhhpaaFlB
import Derived.Test.YtcankpiidjhhpaaKFlowsOf
namespace Go.Proofs.Ytcankpiidjhhpaa
open Go Go.ChangeShapes Go.WideShapes Go.ChangeAt Go.RowKit Go.Lib
set_option linter.unusedVariables false
set_option linter.unusedSimpArgs false
set_option maxRecDepth 100000
set_option maxHeartbeats 4000000 in
theorem clo_FlowsOf (a1 : Int) (B : Nat) (l : List TFlow) (w : World) (hq0 : w.cell? ⟨B, 0, none⟩ = some (.int .i64 a1)) :
    PredB Try.prog 64 #[.pointer (some ⟨B, 0, none⟩)] (fun x : TFlow => .agg #[.int .i64 x.f0, .int .i64 x.f1, .int .i64 x.f2]) (fun x => x.f0 == a1) l w := fun W x _ hb => by
  have c0 := cell_nw hb hq0
  have m0 : B < W.heap.size := World.block_lt_of_cell? _ _ c0
  have n0 : B ≠ W.heap.size := Nat.ne_of_lt m0
  clear hb hq0
  change Calls Try.prog _ #[.agg #[.int .i64 x.f0, .int .i64 x.f1, .int .i64 x.f2], .pointer (some ⟨B, 0, none⟩)] _ (Says (.bool (x.f0 == a1)) W)
  have HE := Lib.hid (show (x.f0 == a1) = (x.f0 == a1) by simp [])
  go_enter Try.func64, Try.ntmps64
  go_wp2_with fail
  go_ret
  exact ⟨by first | rfl | (rw [HE.out]; rfl), by repeat (first | with_reducible exact Below.refl _ _ | (with_reducible refine below_step ?_ (by assumption) (by first | omega | (simp; done) | (simp <;> omega))) | (with_reducible refine Below.alloc ?_ (by first | omega | (simp; done) | (simp <;> omega)) _) | (with_reducible refine Below.setCell ?_ (by first | omega | (simp; done) | (simp <;> omega)) _) | (with_reducible refine Below.drew ?_) | (with_reducible refine below_dN ?_ _) | (refine Below.alloc ?_ (by first | omega | (simp; done) | (simp <;> omega)) _))⟩

set_option maxHeartbeats 4000000 in
theorem impl_FlowsOf (l : List TFlow) (A : Option Addr) (n c lo hi : Nat) (a1 : Int) (w : World) (hn : n ≤ 1048576) (hr : Rd w lo hi 3 A n (cFlow l)) (H : Hid (cFlowOk l)) (wfa1 : (Lit.int .i64 a1).wf = true) :
    Calls Try.prog 16 #[.slice A n c, .int .i64 a1] w (Makes 87 3 (l.filter fun x => x.f0 == a1).length (cFlow (l.filter fun x => x.f0 == a1)) w) := by
  have hmf : ∀ (fn : Fn) (first cap : Array Value) (w : World), (Instr.makeFunc fn first cap).run Try.prog w = .ok (.func fn first cap) w := fun _ _ _ _ => rfl
  have e0 : ((w.alloc (.cells #[.int .i64 a1] 3)).alloc (.cells #[.func (.func 64) #[] (#[.pointer (some ⟨w.heap.size, 0, none⟩)])] 88)).cell? ⟨w.heap.size, 0, none⟩ = some (.int .i64 a1) := by repeat (first | (with_reducible refine cell_newest (by simp) rfl) | (with_reducible refine cell_al ?_))
  have HC := Lib.hid (kFlowsOf.keep (fun x => x.f0 == a1) (#[.pointer (some ⟨w.heap.size, 0, none⟩)]) l A n c lo hi (w.heap.size + 1) ((w.alloc (.cells #[.int .i64 a1] 3)).alloc (.cells #[.func (.func 64) #[] (#[.pointer (some ⟨w.heap.size, 0, none⟩)])] 88)) hn ((hr.alloc _).alloc _) (by first | exact box_new _ _ _ | simpa using box_new (w.alloc (.cells #[.int .i64 a1] 3)) 88 #[.func (.func 64) #[] (#[.pointer (some ⟨w.heap.size, 0, none⟩)])]) (clo_FlowsOf a1 w.heap.size l _ e0))
  clear hr wfa1 e0
  generalize (l.filter fun x => x.f0 == a1) = r at HC ⊢
  go_enter Try.func16, Try.ntmps16
  go_wp2_with fail
  refine HC.out.mono ?_
  rintro e w1 ⟨v, rfl, ho1, hb1⟩
  have HO1 := Lib.hid ho1
  have HB1 := Lib.hid (below_trans (((Below.refl _ _).alloc (Nat.le_refl _) _).alloc (by simp <;> omega) _) hb1 (by simp <;> omega))
  have HM := Lib.hid (own_base (base' := w.heap.size) ho1 (by simp <;> omega))
  clear ho1 hb1
  go_wp2_with fail
  go_ret
  exact makes_of_own HM.out HB1.out
end Go.Proofs.Ytcankpiidjhhpaa
