/- WidenedGrants, of the program and of the model. -/
import Derived.Test.YthipflbjnnplaaaRPackage
import Derived.Test.YthipflbjnnplaaaWithin
import Derived.Test.YthipflbjnnplaaaGB
import Derived.Test.YthipflbjnnplaaaKWGr
import Derived.Test.YthipflbjnnplaaaApp
import Derived.StillTailTactics
import Derived.Deep.LoopGhost
import Derived.IntWalk
namespace Go.Proofs.Ythipflbjnnplaaa
open Go Go.ChangeShapes Go.WideShapes Go.ChangeAt Go.RowKit Go.Lib
set_option linter.unusedVariables false
set_option linter.unusedSimpArgs false
set_option maxRecDepth 100000
set_option maxHeartbeats 4000000 in
theorem clo_WGr (l0_3 : List TGrant) (A0_3 : Option Addr) (n0_3 c0_3 lo0_3 hi0_3 B : Nat) (cs : Array Value) (l : List TGrant) (w : World) (h0 : n0_3 ≤ 1048576) (r0 : Rd w lo0_3 hi0_3 7 A0_3 n0_3 (cGrant l0_3)) (k0 : n0_3 ≤ c0_3) (b0 : Hid (cGrantOk l0_3)) (hfit : Hid (cGrantOk l)) (hq : BoxAt w B 35 cs) (hcs : cs[3]? = some (.slice A0_3 n0_3 c0_3)) :
    PredB Try.prog 101 #[.pointer (some ⟨B, 0, none⟩)] (fun x : TGrant => .agg #[.int .i64 x.f0, .int .i64 x.f1, .int .i64 x.f2, .int .i64 x.f3, .int .i64 x.f4, .int .i64 x.f5, .bool x.f6]) (fun x => !(l0_3.any (mWithin x))) l w := fun W x hx hb => by
  have q3 : W.cell? ⟨B, 3, none⟩ = _ := (hq.new hb).at_ hcs
  have m0 : B < W.heap.size := (hq.new hb).lt
  have n0 : B ≠ W.heap.size := Nat.ne_of_lt m0
  have R := Lib.hid (r0.new hb)
  have b1 : Hid (cGrantOk [x]) := Lib.hid (fun y hy => by simp at hy; subst hy; exact hfit.out _ hx)
  have HC : Hid (∀ (V : World) (A1 : Option Addr) (lo hi : Nat), Rd V lo hi 7 A1 1 (cGrant [x]) → Rd V lo0_3 hi0_3 7 A0_3 n0_3 (cGrant l0_3) → Calls Try.prog 102 #[.slice A1 1 1, .slice A0_3 n0_3 c0_3] V (Says (.bool (l0_3.any (mWithin x))) V)) := Lib.hid fun V A1 lo hi r1 r2 => by
    have := impl_IsWithinGrantsC [x] A1 1 1 lo hi l0_3 A0_3 n0_3 c0_3 lo0_3 hi0_3 V (by omega) r1 (by omega) b1 h0 r2 k0 b0
    simpa using this
  change Calls Try.prog _ #[.agg #[.int .i64 x.f0, .int .i64 x.f1, .int .i64 x.f2, .int .i64 x.f3, .int .i64 x.f4, .int .i64 x.f5, .bool x.f6], .pointer (some ⟨B, 0, none⟩)] _ (Says (.bool (!(l0_3.any (mWithin x)))) W)
  generalize l0_3.any (mWithin x) = q at HC ⊢
  have HL1 := Lib.hid (rd_lit (W.alloc (.cells #[.int .i64 x.f0, .int .i64 x.f1, .int .i64 x.f2, .int .i64 x.f3, .int .i64 x.f4, .int .i64 x.f5, .bool x.f6] 102)) #[.int .i64 x.f0, .int .i64 x.f1, .int .i64 x.f2, .int .i64 x.f3, .int .i64 x.f4, .int .i64 x.f5, .bool x.f6] 102 1 7 rfl)
  clear hb hq hcs r0 b1 hx
  go_enter Try.func101, Try.ntmps101
  go_wp2_with fail
  refine (HC.out _ _ _ _ (by simpa [cGrant, TGrant.cells] using HL1.out) ((R.out.alloc _).alloc _)).mono ?_
  rintro e w1 ⟨rfl, hb1⟩
  have HB1 := Lib.hid ((((Below.refl W.heap.size W).alloc (Nat.le_refl _) _).alloc (by simp) _).trans (hb1.mono (by simp <;> omega)))
  clear hb1
  cases q
  all_goals
    go_wp2_with fail
    go_ret
    exact ⟨rfl, HB1.out⟩

set_option maxHeartbeats 8000000 in
theorem impl_WidenedGrantsC (p0_0 : Int) (p0_1 : Int) (p0_2 : Int) (l0_3 : List TGrant) (A0_3 : Option Addr) (n0_3 c0_3 lo0_3 hi0_3 : Nat) (l0_4 : List TFlow) (A0_4 : Option Addr) (n0_4 c0_4 lo0_4 hi0_4 : Nat) (l0_5 : List TRule) (A0_5 : Option Addr) (n0_5 c0_5 lo0_5 hi0_5 : Nat) (l0_6 : List TOp) (A0_6 : Option Addr) (n0_6 c0_6 lo0_6 hi0_6 : Nat) (p0_7 : Int) (p1_0 : Int) (p1_1 : Int) (p1_2 : Int) (l1_3 : List TGrant) (A1_3 : Option Addr) (n1_3 c1_3 lo1_3 hi1_3 : Nat) (l1_4 : List TFlow) (A1_4 : Option Addr) (n1_4 c1_4 lo1_4 hi1_4 : Nat) (l1_5 : List TRule) (A1_5 : Option Addr) (n1_5 c1_5 lo1_5 hi1_5 : Nat) (l1_6 : List TOp) (A1_6 : Option Addr) (n1_6 c1_6 lo1_6 hi1_6 : Nat) (p1_7 : Int) (w : World) (h0_3 : n0_3 ≤ 1048576) (r0_3 : Rd w lo0_3 hi0_3 7 A0_3 n0_3 (cGrant l0_3)) (k0_3 : n0_3 ≤ c0_3) (b0_3 : Hid (cGrantOk l0_3)) (h0_4 : n0_4 ≤ 1048576) (r0_4 : Rd w lo0_4 hi0_4 3 A0_4 n0_4 (cFlow l0_4)) (k0_4 : n0_4 ≤ c0_4) (b0_4 : Hid (cFlowOk l0_4)) (h0_5 : n0_5 ≤ 1048576) (r0_5 : Rd w lo0_5 hi0_5 8 A0_5 n0_5 (cRule l0_5)) (k0_5 : n0_5 ≤ c0_5) (b0_5 : Hid (cRuleOk l0_5)) (h0_6 : n0_6 ≤ 1048576) (r0_6 : Rd w lo0_6 hi0_6 4 A0_6 n0_6 (cOp l0_6)) (k0_6 : n0_6 ≤ c0_6) (b0_6 : Hid (cOpOk l0_6)) (h1_3 : n1_3 ≤ 1048576) (r1_3 : Rd w lo1_3 hi1_3 7 A1_3 n1_3 (cGrant l1_3)) (k1_3 : n1_3 ≤ c1_3) (b1_3 : Hid (cGrantOk l1_3)) (h1_4 : n1_4 ≤ 1048576) (r1_4 : Rd w lo1_4 hi1_4 3 A1_4 n1_4 (cFlow l1_4)) (k1_4 : n1_4 ≤ c1_4) (b1_4 : Hid (cFlowOk l1_4)) (h1_5 : n1_5 ≤ 1048576) (r1_5 : Rd w lo1_5 hi1_5 8 A1_5 n1_5 (cRule l1_5)) (k1_5 : n1_5 ≤ c1_5) (b1_5 : Hid (cRuleOk l1_5)) (h1_6 : n1_6 ≤ 1048576) (r1_6 : Rd w lo1_6 hi1_6 4 A1_6 n1_6 (cOp l1_6)) (k1_6 : n1_6 ≤ c1_6) (b1_6 : Hid (cOpOk l1_6)) :
    Calls Try.prog 23 #[.agg #[.int .i64 p0_0, .int .i64 p0_1, .int .i64 p0_2, .slice A0_3 n0_3 c0_3, .slice A0_4 n0_4 c0_4, .slice A0_5 n0_5 c0_5, .slice A0_6 n0_6 c0_6, .int .i64 p0_7], .agg #[.int .i64 p1_0, .int .i64 p1_1, .int .i64 p1_2, .slice A1_3 n1_3 c1_3, .slice A1_4 n1_4 c1_4, .slice A1_5 n1_5 c1_5, .slice A1_6 n1_6 c1_6, .int .i64 p1_7]] w (Makes 102 7 (l1_3.filter fun x => !(l0_3.any (mWithin x))).length (cGrant (l1_3.filter fun x => !(l0_3.any (mWithin x)))) w) := by
  have hmf : ∀ (fn : Fn) (first cap : Array Value) (w : World), (Instr.makeFunc fn first cap).run Try.prog w = .ok (.func fn first cap) w := fun _ _ _ _ => rfl
  have KB := (show BoxAt ((w.alloc (.cells #[.int .i64 p0_0, .int .i64 p0_1, .int .i64 p0_2, .slice A0_3 n0_3 c0_3, .slice A0_4 n0_4 c0_4, .slice A0_5 n0_5 c0_5, .slice A0_6 n0_6 c0_6, .int .i64 p0_7] 35)).alloc (.cells #[.int .i64 p1_0, .int .i64 p1_1, .int .i64 p1_2, .slice A1_3 n1_3 c1_3, .slice A1_4 n1_4 c1_4, .slice A1_5 n1_5 c1_5, .slice A1_6 n1_6 c1_6, .int .i64 p1_7] 35)) w.heap.size 35 #[.int .i64 p0_0, .int .i64 p0_1, .int .i64 p0_2, .slice A0_3 n0_3 c0_3, .slice A0_4 n0_4 c0_4, .slice A0_5 n0_5 c0_5, .slice A0_6 n0_6 c0_6, .int .i64 p0_7] from (box_new _ _ _ : BoxAt (w.alloc (.cells #[.int .i64 p0_0, .int .i64 p0_1, .int .i64 p0_2, .slice A0_3 n0_3 c0_3, .slice A0_4 n0_4 c0_4, .slice A0_5 n0_5 c0_5, .slice A0_6 n0_6 c0_6, .int .i64 p0_7] 35)) _ _ _).alloc_ _)
  have HC := Lib.hid (kWGr.keep (fun x => !(l0_3.any (mWithin x))) #[.pointer (some ⟨w.heap.size, 0, none⟩)] l1_3 A1_3 n1_3 c1_3 lo1_3 hi1_3 (w.heap.size + 1 + 1) (((w.alloc (.cells #[.int .i64 p0_0, .int .i64 p0_1, .int .i64 p0_2, .slice A0_3 n0_3 c0_3, .slice A0_4 n0_4 c0_4, .slice A0_5 n0_5 c0_5, .slice A0_6 n0_6 c0_6, .int .i64 p0_7] 35)).alloc (.cells #[.int .i64 p1_0, .int .i64 p1_1, .int .i64 p1_2, .slice A1_3 n1_3 c1_3, .slice A1_4 n1_4 c1_4, .slice A1_5 n1_5 c1_5, .slice A1_6 n1_6 c1_6, .int .i64 p1_7] 35)).alloc (.cells #[.func (.func 101) #[] (#[.pointer (some ⟨w.heap.size, 0, none⟩)])] 114)) h1_3 (((r1_3.alloc _).alloc _).alloc _) (by simpa using box_new ((w.alloc (.cells #[.int .i64 p0_0, .int .i64 p0_1, .int .i64 p0_2, .slice A0_3 n0_3 c0_3, .slice A0_4 n0_4 c0_4, .slice A0_5 n0_5 c0_5, .slice A0_6 n0_6 c0_6, .int .i64 p0_7] 35)).alloc (.cells #[.int .i64 p1_0, .int .i64 p1_1, .int .i64 p1_2, .slice A1_3 n1_3 c1_3, .slice A1_4 n1_4 c1_4, .slice A1_5 n1_5 c1_5, .slice A1_6 n1_6 c1_6, .int .i64 p1_7] 35)) 114 #[.func (.func 101) #[] (#[.pointer (some ⟨w.heap.size, 0, none⟩)])])
    (clo_WGr l0_3 A0_3 n0_3 c0_3 lo0_3 hi0_3 w.heap.size #[.int .i64 p0_0, .int .i64 p0_1, .int .i64 p0_2, .slice A0_3 n0_3 c0_3, .slice A0_4 n0_4 c0_4, .slice A0_5 n0_5 c0_5, .slice A0_6 n0_6 c0_6, .int .i64 p0_7] l1_3 _ h0_3 (((r0_3.alloc _).alloc _).alloc _) k0_3 b0_3 b1_3 (KB.alloc_ _) rfl))
  clear KB r0_3 r0_4 r0_5 r0_6 r1_3 r1_4 r1_5 r1_6
  generalize (l1_3.filter fun x => !(l0_3.any (mWithin x))) = r at HC ⊢
  go_enter Try.func23, Try.ntmps23
  go_wp2_with fail
  refine HC.out.mono ?_
  rintro e w1 ⟨v, rfl, ho1, hb1⟩
  have HB1 := Lib.hid (below_trans ((((Below.refl _ _).alloc (Nat.le_refl _) _).alloc (by simp <;> omega) _).alloc (by simp <;> omega) _) hb1 (by simp <;> omega))
  have HM := Lib.hid (own_base (base' := w.heap.size) ho1 (by simp <;> omega))
  clear ho1 hb1
  go_wp2_with fail
  go_ret
  exact makes_of_own HM.out HB1.out

set_option maxHeartbeats 8000000 in
theorem spec_WidenedGrants (p0_0 : Int) (p0_1 : Int) (p0_2 : Int) (l0_3 : List TGrant) (A0_3 : Option Addr) (n0_3 c0_3 lo0_3 hi0_3 : Nat) (l0_4 : List TFlow) (A0_4 : Option Addr) (n0_4 c0_4 lo0_4 hi0_4 : Nat) (l0_5 : List TRule) (A0_5 : Option Addr) (n0_5 c0_5 lo0_5 hi0_5 : Nat) (l0_6 : List TOp) (A0_6 : Option Addr) (n0_6 c0_6 lo0_6 hi0_6 : Nat) (p0_7 : Int) (p1_0 : Int) (p1_1 : Int) (p1_2 : Int) (l1_3 : List TGrant) (A1_3 : Option Addr) (n1_3 c1_3 lo1_3 hi1_3 : Nat) (l1_4 : List TFlow) (A1_4 : Option Addr) (n1_4 c1_4 lo1_4 hi1_4 : Nat) (l1_5 : List TRule) (A1_5 : Option Addr) (n1_5 c1_5 lo1_5 hi1_5 : Nat) (l1_6 : List TOp) (A1_6 : Option Addr) (n1_6 c1_6 lo1_6 hi1_6 : Nat) (p1_7 : Int) (w : World) (h0_3 : n0_3 ≤ 1048576) (r0_3 : Rd w lo0_3 hi0_3 7 A0_3 n0_3 (cGrant l0_3)) (k0_3 : n0_3 ≤ c0_3) (b0_3 : Hid (cGrantOk l0_3)) (h0_4 : n0_4 ≤ 1048576) (r0_4 : Rd w lo0_4 hi0_4 3 A0_4 n0_4 (cFlow l0_4)) (k0_4 : n0_4 ≤ c0_4) (b0_4 : Hid (cFlowOk l0_4)) (h0_5 : n0_5 ≤ 1048576) (r0_5 : Rd w lo0_5 hi0_5 8 A0_5 n0_5 (cRule l0_5)) (k0_5 : n0_5 ≤ c0_5) (b0_5 : Hid (cRuleOk l0_5)) (h0_6 : n0_6 ≤ 1048576) (r0_6 : Rd w lo0_6 hi0_6 4 A0_6 n0_6 (cOp l0_6)) (k0_6 : n0_6 ≤ c0_6) (b0_6 : Hid (cOpOk l0_6)) (h1_3 : n1_3 ≤ 1048576) (r1_3 : Rd w lo1_3 hi1_3 7 A1_3 n1_3 (cGrant l1_3)) (k1_3 : n1_3 ≤ c1_3) (b1_3 : Hid (cGrantOk l1_3)) (h1_4 : n1_4 ≤ 1048576) (r1_4 : Rd w lo1_4 hi1_4 3 A1_4 n1_4 (cFlow l1_4)) (k1_4 : n1_4 ≤ c1_4) (b1_4 : Hid (cFlowOk l1_4)) (h1_5 : n1_5 ≤ 1048576) (r1_5 : Rd w lo1_5 hi1_5 8 A1_5 n1_5 (cRule l1_5)) (k1_5 : n1_5 ≤ c1_5) (b1_5 : Hid (cRuleOk l1_5)) (h1_6 : n1_6 ≤ 1048576) (r1_6 : Rd w lo1_6 hi1_6 4 A1_6 n1_6 (cOp l1_6)) (k1_6 : n1_6 ≤ c1_6) (b1_6 : Hid (cOpOk l1_6)) :
    Calls Try.prog 22 #[.agg #[.int .i64 p0_0, .int .i64 p0_1, .int .i64 p0_2, .slice A0_3 n0_3 c0_3, .slice A0_4 n0_4 c0_4, .slice A0_5 n0_5 c0_5, .slice A0_6 n0_6 c0_6, .int .i64 p0_7], .agg #[.int .i64 p1_0, .int .i64 p1_1, .int .i64 p1_2, .slice A1_3 n1_3 c1_3, .slice A1_4 n1_4 c1_4, .slice A1_5 n1_5 c1_5, .slice A1_6 n1_6 c1_6, .int .i64 p1_7]] w (Makes 102 7 (l1_3.filter fun x => !(l0_3.any (mWithin x))).length (cGrant (l1_3.filter fun x => !(l0_3.any (mWithin x)))) w) := by
  have HL := Lib.hid (rd_len TGrant.len r1_3 (by decide))
  have HR := Lib.hid r1_3
  have HR0 := Lib.hid r0_3
  have HK := Lib.hid k1_3
  clear r0_3 r0_4 r0_5 r0_6 r1_3 r1_4 r1_5 r1_6
  generalize hP : (fun x : TGrant => !(l0_3.any (mWithin x))) = P
  have HP := Lib.hid hP
  clear hP
  have KB0 := Lib.hid (show BoxAt (((w.alloc (.cells #[.int .i64 p0_0, .int .i64 p0_1, .int .i64 p0_2, .slice A0_3 n0_3 c0_3, .slice A0_4 n0_4 c0_4, .slice A0_5 n0_5 c0_5, .slice A0_6 n0_6 c0_6, .int .i64 p0_7] 35)).alloc (.cells #[.int .i64 p1_0, .int .i64 p1_1, .int .i64 p1_2, .slice A1_3 n1_3 c1_3, .slice A1_4 n1_4 c1_4, .slice A1_5 n1_5 c1_5, .slice A1_6 n1_6 c1_6, .int .i64 p1_7] 35)).alloc (.cells #[] 102)) w.heap.size 35 #[.int .i64 p0_0, .int .i64 p0_1, .int .i64 p0_2, .slice A0_3 n0_3 c0_3, .slice A0_4 n0_4 c0_4, .slice A0_5 n0_5 c0_5, .slice A0_6 n0_6 c0_6, .int .i64 p0_7] from ((box_new _ _ _ : BoxAt (w.alloc (.cells #[.int .i64 p0_0, .int .i64 p0_1, .int .i64 p0_2, .slice A0_3 n0_3 c0_3, .slice A0_4 n0_4 c0_4, .slice A0_5 n0_5 c0_5, .slice A0_6 n0_6 c0_6, .int .i64 p0_7] 35)) _ _ _).alloc_ _).alloc_ _)
  have KB1 := Lib.hid (show BoxAt (((w.alloc (.cells #[.int .i64 p0_0, .int .i64 p0_1, .int .i64 p0_2, .slice A0_3 n0_3 c0_3, .slice A0_4 n0_4 c0_4, .slice A0_5 n0_5 c0_5, .slice A0_6 n0_6 c0_6, .int .i64 p0_7] 35)).alloc (.cells #[.int .i64 p1_0, .int .i64 p1_1, .int .i64 p1_2, .slice A1_3 n1_3 c1_3, .slice A1_4 n1_4 c1_4, .slice A1_5 n1_5 c1_5, .slice A1_6 n1_6 c1_6, .int .i64 p1_7] 35)).alloc (.cells #[] 102)) (w.heap.size + 1) 35 #[.int .i64 p1_0, .int .i64 p1_1, .int .i64 p1_2, .slice A1_3 n1_3 c1_3, .slice A1_4 n1_4 c1_4, .slice A1_5 n1_5 c1_5, .slice A1_6 n1_6 c1_6, .int .i64 p1_7] from (by simpa using box_new (w.alloc (.cells #[.int .i64 p0_0, .int .i64 p0_1, .int .i64 p0_2, .slice A0_3 n0_3 c0_3, .slice A0_4 n0_4 c0_4, .slice A0_5 n0_5 c0_5, .slice A0_6 n0_6 c0_6, .int .i64 p0_7] 35)) 35 #[.int .i64 p1_0, .int .i64 p1_1, .int .i64 p1_2, .slice A1_3 n1_3 c1_3, .slice A1_4 n1_4 c1_4, .slice A1_5 n1_5 c1_5, .slice A1_6 n1_6 c1_6, .int .i64 p1_7] : BoxAt ((w.alloc (.cells #[.int .i64 p0_0, .int .i64 p0_1, .int .i64 p0_2, .slice A0_3 n0_3 c0_3, .slice A0_4 n0_4 c0_4, .slice A0_5 n0_5 c0_5, .slice A0_6 n0_6 c0_6, .int .i64 p0_7] 35)).alloc (.cells #[.int .i64 p1_0, .int .i64 p1_1, .int .i64 p1_2, .slice A1_3 n1_3 c1_3, .slice A1_4 n1_4 c1_4, .slice A1_5 n1_5 c1_5, .slice A1_6 n1_6 c1_6, .int .i64 p1_7] 35)) (w.heap.size + 1) 35 #[.int .i64 p1_0, .int .i64 p1_1, .int .i64 p1_2, .slice A1_3 n1_3 c1_3, .slice A1_4 n1_4 c1_4, .slice A1_5 n1_5 c1_5, .slice A1_6 n1_6 c1_6, .int .i64 p1_7]).alloc_ _)
  have HO0 := Lib.hid (show (((w.alloc (.cells #[.int .i64 p0_0, .int .i64 p0_1, .int .i64 p0_2, .slice A0_3 n0_3 c0_3, .slice A0_4 n0_4 c0_4, .slice A0_5 n0_5 c0_5, .slice A0_6 n0_6 c0_6, .int .i64 p0_7] 35)).alloc (.cells #[.int .i64 p1_0, .int .i64 p1_1, .int .i64 p1_2, .slice A1_3 n1_3 c1_3, .slice A1_4 n1_4 c1_4, .slice A1_5 n1_5 c1_5, .slice A1_6 n1_6 c1_6, .int .i64 p1_7] 35)).alloc (.cells #[] 102)).ownsRow (w.heap.size + 1 + 1) 102 7 (.slice (some ⟨w.heap.size + 1 + 1, 0, none⟩) 0 0) 0 [] by
    have h := World.ownsRow_lit (base := w.heap.size + 1 + 1) (e := 102) (size := 7) ((w.alloc (.cells #[.int .i64 p0_0, .int .i64 p0_1, .int .i64 p0_2, .slice A0_3 n0_3 c0_3, .slice A0_4 n0_4 c0_4, .slice A0_5 n0_5 c0_5, .slice A0_6 n0_6 c0_6, .int .i64 p0_7] 35)).alloc (.cells #[.int .i64 p1_0, .int .i64 p1_1, .int .i64 p1_2, .slice A1_3 n1_3 c1_3, .slice A1_4 n1_4 c1_4, .slice A1_5 n1_5 c1_5, .slice A1_6 n1_6 c1_6, .int .i64 p1_7] 35)) #[] 0 (by simp <;> omega) (by unfold maxLen; omega) rfl
    simpa using h)
  have HB0 := Lib.hid (show Below w.heap.size w (((w.alloc (.cells #[.int .i64 p0_0, .int .i64 p0_1, .int .i64 p0_2, .slice A0_3 n0_3 c0_3, .slice A0_4 n0_4 c0_4, .slice A0_5 n0_5 c0_5, .slice A0_6 n0_6 c0_6, .int .i64 p0_7] 35)).alloc (.cells #[.int .i64 p1_0, .int .i64 p1_1, .int .i64 p1_2, .slice A1_3 n1_3 c1_3, .slice A1_4 n1_4 c1_4, .slice A1_5 n1_5 c1_5, .slice A1_6 n1_6 c1_6, .int .i64 p1_7] 35)).alloc (.cells #[] 102)) from (((Below.refl _ _).alloc (Nat.le_refl _) _).alloc (by simp) _).alloc (by simp <;> omega) _)
  go_enter Try.func22, Try.ntmps22
  go_wp2_with fail
  go_loopg [5, 6] n1_3 (fun gg v i wr => ∃ k : Nat, k ≤ n1_3 ∧ n1_3 - k ≤ gg ∧ i = .int .i64 k ∧ Hid (wr.ownsRow (w.heap.size + 1 + 1) 102 7 v ((l1_3.take k).filter P).length (cGrant ((l1_3.take k).filter P))) ∧ Hid (BoxAt wr w.heap.size 35 #[.int .i64 p0_0, .int .i64 p0_1, .int .i64 p0_2, .slice A0_3 n0_3 c0_3, .slice A0_4 n0_4 c0_4, .slice A0_5 n0_5 c0_5, .slice A0_6 n0_6 c0_6, .int .i64 p0_7]) ∧ Hid (BoxAt wr (w.heap.size + 1) 35 #[.int .i64 p1_0, .int .i64 p1_1, .int .i64 p1_2, .slice A1_3 n1_3 c1_3, .slice A1_4 n1_4 c1_4, .slice A1_5 n1_5 c1_5, .slice A1_6 n1_6 c1_6, .int .i64 p1_7]) ∧ Hid (Below w.heap.size w wr))
  case atStart => exact ⟨0, Nat.zero_le _, by omega, rfl, HO0, KB0, KB1, HB0⟩
  case round =>
    obtain ⟨k, hk, hg, rfl, HO, KL0, KL1, HB⟩ := hrel
    clear KB0 KB1 HO0 HB0
    by_cases hlt : k < n1_3
    · obtain ⟨b, off, x, rfl, hlo, hhi, hz, hc⟩ := rd_elem TGrant.len (HR.out.new HB.out) HL.out hlt
      have c0 : wr.cell? ⟨b, off + k * 7, none⟩ = _ := hc 0 _ rfl
      have c1 := hc 1 _ rfl
      have c2 := hc 2 _ rfl
      have c3 := hc 3 _ rfl
      have c4 := hc 4 _ rfl
      have c5 := hc 5 _ rfl
      have c6 := hc 6 _ rfl
      have hbl : b < wr.heap.size := World.block_lt_of_cell? _ _ c0
      have R1 := Lib.hid (show Rd wr lo1_3 hi1_3 7 (some ⟨b, off + k * 7, none⟩) 1 (cGrant [x]) from ⟨by simp [cGrant, TGrant.cells], fun _ => ⟨b, off + k * 7, rfl, hlo, hhi, fun j u hu => hc j u (by simpa [cGrant] using hu)⟩⟩)
      have b1 : Hid (cGrantOk [x]) := Lib.hid (fun y hy => by simp at hy; subst hy; exact b1_3.out _ (List.mem_of_getElem? hz))
      have HE := Lib.hid (filter_sn P hz)
      have HN := Lib.hid (Nat.le_trans (List.length_filter_le P (l1_3.take k)) (List.length_take_le _ _))
      have HPx := Lib.hid (show (!(l0_3.any (mWithin x))) = P x by rw [← HP.out])
      have HC : Hid (∀ (V : World) (cc : Nat), 1 ≤ cc → Rd V lo1_3 hi1_3 7 (some ⟨b, off + k * 7, none⟩) 1 (cGrant [x]) → Rd V lo0_3 hi0_3 7 A0_3 n0_3 (cGrant l0_3) → Calls Try.prog 100 #[.slice (some ⟨b, off + k * 7, none⟩) 1 cc, .slice A0_3 n0_3 c0_3] V (Says (.bool (l0_3.any (mWithin x))) V)) := Lib.hid fun V cc hcc r1 r2 => by
        have := spec_IsWithinGrants [x] _ 1 cc lo1_3 hi1_3 l0_3 A0_3 n0_3 c0_3 lo0_3 hi0_3 V (by omega) r1 hcc b1 h0_3 r2 k0_3 b0_3
        simpa using this
      generalize l0_3.any (mWithin x) = q at HC HPx
      clear hz hc hlo hhi b1
      have hk1 : k < c1_3 := by have := HK.out; omega
      have hk2 : k + 1 ≤ c1_3 := hk1
      have t1 : ((k : Int) + 1).toNat = k + 1 := by omega
      have t2 : (0 : Int) ≤ (k : Int) + 1 := by omega
      have t3 : (k : Int) + 1 ≤ c1_3 := by omega
      have t5 : (k : Int) ≤ (k : Int) + 1 := by omega
      have hck : ¬ (c1_3 = k) := by omega
      have t4 : IntKind.i64.wrap ((k : Int) + 1) = (k : Int) + 1 := IntWalk.i64_in _ (by have := HK.out; omega)
      have ea0 := KL0.out.at_ (j := 0) rfl
      have ec0 := KL1.out.at_ (j := 0) rfl
      have ea1 := KL0.out.at_ (j := 1) rfl
      have ec1 := KL1.out.at_ (j := 1) rfl
      have ea2 := KL0.out.at_ (j := 2) rfl
      have ec2 := KL1.out.at_ (j := 2) rfl
      have ea3 := KL0.out.at_ (j := 3) rfl
      have ec3 := KL1.out.at_ (j := 3) rfl
      have ea4 := KL0.out.at_ (j := 4) rfl
      have ec4 := KL1.out.at_ (j := 4) rfl
      have ea5 := KL0.out.at_ (j := 5) rfl
      have ec5 := KL1.out.at_ (j := 5) rfl
      have ea6 := KL0.out.at_ (j := 6) rfl
      have ec6 := KL1.out.at_ (j := 6) rfl
      have ea7 := KL0.out.at_ (j := 7) rfl
      have ec7 := KL1.out.at_ (j := 7) rfl
      go_wp2_with fail
      have HD := Lib.hid HB.out.drew
      have KD0 := Lib.hid KL0.out.drw
      have KD1 := Lib.hid KL1.out.drw
      have HOd := Lib.hid (show wr.drew.ownsRow (w.heap.size + 1 + 1) _ _ _ _ _ from HO.out)
      have RD1 := Lib.hid R1.out.drw
      have d0_ : wr.drew.cell? ⟨b, off + k * 7, none⟩ = _ := c0
      have d1_ : wr.drew.cell? ⟨b, off + k * 7 + 1, none⟩ = _ := c1
      have d2_ : wr.drew.cell? ⟨b, off + k * 7 + 2, none⟩ = _ := c2
      have d3_ : wr.drew.cell? ⟨b, off + k * 7 + 3, none⟩ = _ := c3
      have d4_ : wr.drew.cell? ⟨b, off + k * 7 + 4, none⟩ = _ := c4
      have d5_ : wr.drew.cell? ⟨b, off + k * 7 + 5, none⟩ = _ := c5
      have d6_ : wr.drew.cell? ⟨b, off + k * 7 + 6, none⟩ = _ := c6
      go_still_tail 8, (by kernel_rfl)
      change wpList _ _ _ _ _ wr.drew
      clear c0 c1 c2 c3 c4 c5 c6 ea0 ec0 ea1 ec1 ea2 ec2 ea3 ec3 ea4 ec4 ea5 ec5 ea6 ec6 ea7 ec7 t4
      generalize wr.drew = w2 at HD KD0 KD1 HOd RD1 d0_ d1_ d2_ d3_ d4_ d5_ d6_ ⊢
      go_wp2_with fail
      refine (HC.out _ _ (by omega) RD1.out (HR0.out.new HD.out)).mono ?_
      rintro e w3 ⟨rfl, hb3⟩
      have HB3 := Lib.hid (below_trans HD.out hb3 (Nat.le_refl _))
      have HO3 := Lib.hid (own_newer HOd.out hb3)
      have KE0 := Lib.hid (KD0.out.new hb3)
      have KE1 := Lib.hid (KD1.out.new hb3)
      have d0 := cell_nw hb3 d0_
      have d1 := cell_nw hb3 d1_
      have d2 := cell_nw hb3 d2_
      have d3 := cell_nw hb3 d3_
      have d4 := cell_nw hb3 d4_
      have d5 := cell_nw hb3 d5_
      have d6 := cell_nw hb3 d6_
      have fe0 := KE0.out.at_ (j := 0) rfl
      have ff0 := KE1.out.at_ (j := 0) rfl
      have fe1 := KE0.out.at_ (j := 1) rfl
      have ff1 := KE1.out.at_ (j := 1) rfl
      have fe2 := KE0.out.at_ (j := 2) rfl
      have ff2 := KE1.out.at_ (j := 2) rfl
      have fe3 := KE0.out.at_ (j := 3) rfl
      have ff3 := KE1.out.at_ (j := 3) rfl
      have fe4 := KE0.out.at_ (j := 4) rfl
      have ff4 := KE1.out.at_ (j := 4) rfl
      have fe5 := KE0.out.at_ (j := 5) rfl
      have ff5 := KE1.out.at_ (j := 5) rfl
      have fe6 := KE0.out.at_ (j := 6) rfl
      have ff6 := KE1.out.at_ (j := 6) rfl
      have fe7 := KE0.out.at_ (j := 7) rfl
      have ff7 := KE1.out.at_ (j := 7) rfl
      clear hb3
      cases q
      · have H2 := Lib.hid (by have := HE.out; rwa [if_pos (by rw [← HPx.out]; rfl)] at this)
        have HS := Lib.hid (show w.heap.size + 1 + 1 ≤ w3.heap.size from KE1.out.lt)
        go_wp2_with (at_builtin; refine wp_app_lit rfl _ _ _ rfl (w.heap.size + 1 + 1) 102 (.agg #[.int .i64 0, .int .i64 0, .int .i64 0, .int .i64 0, .int .i64 0, .int .i64 0, .bool false]) 7 56 Try.underlying30 infoGrant rfl (by decide) _ _ _ rfl HO3.out #[.int .i64 x.f0, .int .i64 x.f1, .int .i64 x.f2, .int .i64 x.f3, .int .i64 x.f4, .int .i64 x.f5, .bool x.f6] 1 1 _ rfl (by simp) rfl (onesGrant x) (by have := HN.out; unfold maxLen; omega) (by have := HN.out; omega) (by have := HS.out; omega) ?_; intro v1 w4 ho4 hb4)
        have HB4 := Lib.hid (HB3.out.trans (hb4.mono (by omega)))
        have KF0 := Lib.hid (KE0.out.keep (hb4.block _ (by omega)))
        have KF1 := Lib.hid (KE1.out.keep (hb4.block _ (by omega)))
        have HO4 := Lib.hid (by rw [H2.out]; simpa [cGrant, TGrant.cells, List.flatMap_append] using ho4 : w4.ownsRow (w.heap.size + 1 + 1) 102 7 v1 ((l1_3.take (k + 1)).filter P).length (cGrant ((l1_3.take (k + 1)).filter P)))
        clear hb4 ho4
        go_wp2_with fail
        go_roundg (n1_3 - (k + 1))
        case measure => omega
        case rel => exact ⟨k + 1, by omega, by omega, by go_num, HO4, KF0, KF1, HB4⟩
      · have H2 := Lib.hid (by have := HE.out; rwa [if_neg (by rw [← HPx.out]; simp)] at this)
        go_wp2_with fail
        go_roundg (n1_3 - (k + 1))
        case measure => omega
        case rel => exact ⟨k + 1, by omega, by omega, by go_num, by rw [H2.out]; exact HO3, KE0, KE1, HB3⟩
    · obtain rfl : k = n1_3 := by omega
      have HO2 := Lib.hid (own_base (base' := w.heap.size) (show wr.ownsRow (w.heap.size + 1 + 1) _ _ _ (l1_3.filter P).length (cGrant (l1_3.filter P)) by have := HO.out; rwa [List.take_of_length_le (by rw [HL.out]; omega)] at this) (by omega))
      clear HO
      have ea0 := KL0.out.at_ (j := 0) rfl
      have ec0 := KL1.out.at_ (j := 0) rfl
      have ea1 := KL0.out.at_ (j := 1) rfl
      have ec1 := KL1.out.at_ (j := 1) rfl
      have ea2 := KL0.out.at_ (j := 2) rfl
      have ec2 := KL1.out.at_ (j := 2) rfl
      have ea3 := KL0.out.at_ (j := 3) rfl
      have ec3 := KL1.out.at_ (j := 3) rfl
      have ea4 := KL0.out.at_ (j := 4) rfl
      have ec4 := KL1.out.at_ (j := 4) rfl
      have ea5 := KL0.out.at_ (j := 5) rfl
      have ec5 := KL1.out.at_ (j := 5) rfl
      have ea6 := KL0.out.at_ (j := 6) rfl
      have ec6 := KL1.out.at_ (j := 6) rfl
      have ea7 := KL0.out.at_ (j := 7) rfl
      have ec7 := KL1.out.at_ (j := 7) rfl
      go_wp2_with fail
      go_ret
      exact makes_of_own HO2.out HB.out

end Go.Proofs.Ythipflbjnnplaaa
