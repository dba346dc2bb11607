/- RevI, RevS, what is needed of it. -/
import Derived.Test.YtkedacmpmancbaaGreatDoorVRgn
import Derived.Test.YtkedacmpmancbaaGreatDoorVPb
import Derived.Test.YtkedacmpmancbaaGreatDoorVNc
import Derived.Test.YtkedacmpmancbaaGreatDoorVRa
import Derived.Test.YtkedacmpmancbaaGreatDoorVRb
import Derived.StillTailTactics
import Derived.Deep.LoopGhost
import Derived.Deep.RegionHeld3
namespace Go.Proofs.YtkedacmpmancbaaGreatDoor
open Go Go.ChangeShapes Go.WideShapes Go.ChangeAt Go.RowKit Go.Lib Go.Maps
set_option linter.unusedVariables false
set_option linter.unusedSimpArgs false
set_option maxRecDepth 100000

def mRev (k p0 p1 p2 : Int) (l3 : List TGrant) (l4 : List TFlow) (l5 : List TRule) (l6 : List TOp) (p7 : Int) : Int :=
 if mIsPack p0 p1 p2 l3 l4 l5 l6 = false then 1 else if mIsSealed k p0 p1 p2 l3 l4 l5 l6 p7 = false then 2 else if mRulesIn l3 l5 = false then 3
 else if ((mOwners l6 1).all fun o => mHG l3 1 o) = false then 4 else if ((mOwners l6 5).all fun o => mHG l3 3 o) = false then 5 else if mTight l6 l4 p0 = false then 6 else 0
theorem owners_i64 {l : List TOp} (a : Int) (h : cOpOk l) : I64s (mOwners l a) := by
 unfold mOwners
 split
 ·
  intro z hz
  rw [mem_mAsd] at hz
  simp only [mFm, List.mem_map] at hz
  obtain ⟨x, hx, rfl⟩ := hz
  have := h x (List.mem_filter.1 hx).1
  exact this.2.2.1
 ·
  intro z hz; cases hz
theorem store_fchk (W : World) (a : Addr) (g : Nat) (cs : Array Value) (m : Mode) : (store a (.func (.func g) #[] cs) m).run Tryz.prog W = stored Tryz.prog W a (.func (.func g) #[] cs) m := run_store Tryz.prog W a _ m rfl
set_option maxHeartbeats 4000000 in
theorem chk_2 (a0 p0 p1 p2 : Int) (A3 : Option Addr) (n3 c3 : Nat) (A4 : Option Addr) (n4 c4 : Nat) (A5 : Option Addr) (n5 c5 : Nat) (A6 : Option Addr) (n6 c6 : Nat) (p7 : Int) (q : Bool) (w : World) (HC : Hid (∀ W, Below w.heap.size w W → Calls Tryz.prog 37 #[.agg #[.int .i64 p0, .int .i64 p1, .int .i64 p2, .slice A3 n3 c3, .slice A4 n4 c4, .slice A5 n5 c5, .slice A6 n6 c6, .int .i64 p7]] W (Says (.bool q) W))) :
  Calls Tryz.prog 141 #[.int .i64 a0, .agg #[.int .i64 p0, .int .i64 p1, .int .i64 p2, .slice A3 n3 c3, .slice A4 n4 c4, .slice A5 n5 c5, .slice A6 n6 c6, .int .i64 p7]] w (Says (.bool (!q)) w) := by
 have hmf : ∀ (fn : Fn) (first cap : Array Value) (w : World), (Instr.makeFunc fn first cap).run Tryz.prog w = .ok (.func fn first cap) w := fun _ _ _ _ => rfl
 have HB0 := Lib.hid ((Below.refl w.heap.size w).alloc (Nat.le_refl _) (.cells #[.int .i64 p0, .int .i64 p1, .int .i64 p2, .slice A3 n3 c3, .slice A4 n4 c4, .slice A5 n5 c5, .slice A6 n6 c6, .int .i64 p7] 35))
 go_enter Tryz.func141, Tryz.ntmps141
 go_wp2_with fail
 refine (HC.out _ HB0.out).mono ?_
 rintro e w1 ⟨rfl, hb1⟩
 have HB := Lib.hid (below_trans HB0.out hb1 (by simp))
 clear hb1
 cases q <;> (go_wp2_with fail; go_ret; exact ⟨rfl, HB.out⟩)
set_option maxHeartbeats 4000000 in
theorem chk_3 (a0 p0 p1 p2 : Int) (A3 : Option Addr) (n3 c3 : Nat) (A4 : Option Addr) (n4 c4 : Nat) (A5 : Option Addr) (n5 c5 : Nat) (A6 : Option Addr) (n6 c6 : Nat) (p7 : Int) (q : Bool) (w : World) (HC : Hid (∀ W, Below w.heap.size w W → Calls Tryz.prog 143 #[.int .i64 a0, .agg #[.int .i64 p0, .int .i64 p1, .int .i64 p2, .slice A3 n3 c3, .slice A4 n4 c4, .slice A5 n5 c5, .slice A6 n6 c6, .int .i64 p7]] W (Says (.bool q) W))) :
  Calls Tryz.prog 142 #[.int .i64 a0, .agg #[.int .i64 p0, .int .i64 p1, .int .i64 p2, .slice A3 n3 c3, .slice A4 n4 c4, .slice A5 n5 c5, .slice A6 n6 c6, .int .i64 p7]] w (Says (.bool (!q)) w) := by
 have hmf : ∀ (fn : Fn) (first cap : Array Value) (w : World), (Instr.makeFunc fn first cap).run Tryz.prog w = .ok (.func fn first cap) w := fun _ _ _ _ => rfl
 have HB0 := Lib.hid ((Below.refl w.heap.size w).alloc (Nat.le_refl _) (.cells #[.int .i64 p0, .int .i64 p1, .int .i64 p2, .slice A3 n3 c3, .slice A4 n4 c4, .slice A5 n5 c5, .slice A6 n6 c6, .int .i64 p7] 35))
 go_enter Tryz.func142, Tryz.ntmps142
 go_wp2_with fail
 refine (HC.out _ HB0.out).mono ?_
 rintro e w1 ⟨rfl, hb1⟩
 have HB := Lib.hid (below_trans HB0.out hb1 (by simp))
 clear hb1
 cases q <;> (go_wp2_with fail; go_ret; exact ⟨rfl, HB.out⟩)
set_option maxHeartbeats 4000000 in
theorem chk_4 (a0 p0 p1 p2 : Int) (A3 : Option Addr) (n3 c3 : Nat) (A4 : Option Addr) (n4 c4 : Nat) (A5 : Option Addr) (n5 c5 : Nat) (A6 : Option Addr) (n6 c6 : Nat) (p7 : Int) (q : Bool) (w : World) (HC : Hid (∀ W, Below w.heap.size w W → Calls Tryz.prog 135 #[.slice A5 n5 c5, .func (.func 145) #[.slice A3 n3 c3] #[]] W (Says (.bool q) W))) :
  Calls Tryz.prog 144 #[.int .i64 a0, .agg #[.int .i64 p0, .int .i64 p1, .int .i64 p2, .slice A3 n3 c3, .slice A4 n4 c4, .slice A5 n5 c5, .slice A6 n6 c6, .int .i64 p7]] w (Says (.bool (!q)) w) := by
 have hmf : ∀ (fn : Fn) (first cap : Array Value) (w : World), (Instr.makeFunc fn first cap).run Tryz.prog w = .ok (.func fn first cap) w := fun _ _ _ _ => rfl
 have HB0 := Lib.hid ((Below.refl w.heap.size w).alloc (Nat.le_refl _) (.cells #[.int .i64 p0, .int .i64 p1, .int .i64 p2, .slice A3 n3 c3, .slice A4 n4 c4, .slice A5 n5 c5, .slice A6 n6 c6, .int .i64 p7] 35))
 go_enter Tryz.func144, Tryz.ntmps144
 go_wp2_with fail
 refine (HC.out _ HB0.out).mono ?_
 rintro e w1 ⟨rfl, hb1⟩
 have HB := Lib.hid (below_trans HB0.out hb1 (by simp))
 clear hb1
 cases q <;> (go_wp2_with fail; go_ret; exact ⟨rfl, HB.out⟩)
set_option maxHeartbeats 4000000 in
theorem chk_7 (a0 p0 p1 p2 : Int) (A3 : Option Addr) (n3 c3 : Nat) (A4 : Option Addr) (n4 c4 : Nat) (A5 : Option Addr) (n5 c5 : Nat) (A6 : Option Addr) (n6 c6 : Nat) (p7 : Int) (q : Bool) (w : World) (HC : Hid (∀ W, Below w.heap.size w W → Calls Tryz.prog 152 #[.slice A6 n6 c6, .slice A4 n4 c4, .int .i64 p0] W (Says (.bool q) W))) :
  Calls Tryz.prog 151 #[.int .i64 a0, .agg #[.int .i64 p0, .int .i64 p1, .int .i64 p2, .slice A3 n3 c3, .slice A4 n4 c4, .slice A5 n5 c5, .slice A6 n6 c6, .int .i64 p7]] w (Says (.bool (!q)) w) := by
 have hmf : ∀ (fn : Fn) (first cap : Array Value) (w : World), (Instr.makeFunc fn first cap).run Tryz.prog w = .ok (.func fn first cap) w := fun _ _ _ _ => rfl
 have HB0 := Lib.hid ((Below.refl w.heap.size w).alloc (Nat.le_refl _) (.cells #[.int .i64 p0, .int .i64 p1, .int .i64 p2, .slice A3 n3 c3, .slice A4 n4 c4, .slice A5 n5 c5, .slice A6 n6 c6, .int .i64 p7] 35))
 go_enter Tryz.func151, Tryz.ntmps151
 go_wp2_with fail
 refine (HC.out _ HB0.out).mono ?_
 rintro e w1 ⟨rfl, hb1⟩
 have HB := Lib.hid (below_trans HB0.out hb1 (by simp))
 clear hb1
 cases q <;> (go_wp2_with fail; go_ret; exact ⟨rfl, HB.out⟩)
theorem chk_1 (a0 p0 p1 p2 : Int) (A3 : Option Addr) (n3 c3 : Nat) (A4 : Option Addr) (n4 c4 : Nat) (A5 : Option Addr) (n5 c5 : Nat) (A6 : Option Addr) (n6 c6 : Nat) (p7 : Int) (w : World) : Calls Tryz.prog 140 #[.int .i64 a0, .agg #[.int .i64 p0, .int .i64 p1, .int .i64 p2, .slice A3 n3 c3, .slice A4 n4 c4, .slice A5 n5 c5, .slice A6 n6 c6, .int .i64 p7]] w (Says (.bool false) w) := by
 go_enter Tryz.func140, Tryz.ntmps140
 go_wp2_with fail
 go_ret
 exact ⟨rfl, (Below.refl _ _).alloc (Nat.le_refl _) _⟩
set_option maxHeartbeats 8000000 in
theorem chk_5 (a0 : Int) (p0 p1 p2 : Int) (l3 : List TGrant) (A3 : Option Addr) (n3 c3 lo3 hi3 : Nat) (l4 : List TFlow) (A4 : Option Addr) (n4 c4 lo4 hi4 : Nat) (l5 : List TRule) (A5 : Option Addr) (n5 c5 lo5 hi5 : Nat) (l6 : List TOp) (A6 : Option Addr) (n6 c6 lo6 hi6 : Nat) (p7 : Int) (w : World) (h3 : n3 ≤ 1048576) (r3 : Rd w lo3 hi3 7 A3 n3 (cGrant l3)) (k3 : n3 ≤ c3) (b3 : Hid (cGrantOk l3)) (h4 : n4 ≤ 1048576) (r4 : Rd w lo4 hi4 3 A4 n4 (cFlow l4)) (k4 : n4 ≤ c4) (b4 : Hid (cFlowOk l4)) (h5 : n5 ≤ 1048576) (r5 : Rd w lo5 hi5 8 A5 n5 (cRule l5)) (k5 : n5 ≤ c5) (b5 : Hid (cRuleOk l5)) (h6 : n6 ≤ 1048576) (r6 : Rd w lo6 hi6 4 A6 n6 (cOp l6)) (k6 : n6 ≤ c6) (b6 : Hid (cOpOk l6)) :
  Calls Tryz.prog 146 #[.int .i64 a0, .agg #[.int .i64 p0, .int .i64 p1, .int .i64 p2, .slice A3 n3 c3, .slice A4 n4 c4, .slice A5 n5 c5, .slice A6 n6 c6, .int .i64 p7]] w (Says (.bool (!((mOwners l6 1).all fun o => mHG l3 1 o))) w) := by
 have HT : Hid (Tryz.prog.underlying 190 = some (.map 3 4)) := Lib.hid Tryz.underlying190
 have CO := Lib.hid (fun W (hb : Below w.heap.size w W) => impl_OwnersReadC l6 A6 n6 c6 lo6 hi6 W h6 (r6.new hb) k6 b6)
 have hl6 : l6.length = n6 := rd_len TOp.len r6 (by decide)
 have hJl : (mOwners l6 1).length ≤ 1048576 := Nat.le_trans (mOwners_len l6 1) (by omega)
 have CM := Lib.hid (fun W (hb : Below w.heap.size w W) (AJ : Option Addr) (cJ loJ hiJ : Nat) (hr : Rd W loJ hiJ 1 AJ (mOwners l6 1).length (i64s (mOwners l6 1))) => impl_openOwners l3 A3 n3 c3 lo3 hi3 1 (mOwners l6 1) AJ (mOwners l6 1).length cJ loJ hiJ W h3 (r3.new hb) b3 hJl hr (Lib.hid (owners_i64 1 b6.out)))
 have HON := Lib.hid (open_none (l := l3) (a1 := 1) (J := mOwners l6 1))
 have KB0 := Lib.hid (box_new w 35 #[.int .i64 p0, .int .i64 p1, .int .i64 p2, .slice A3 n3 c3, .slice A4 n4 c4, .slice A5 n5 c5, .slice A6 n6 c6, .int .i64 p7])
 have HB0 := Lib.hid ((Below.refl w.heap.size w).alloc (Nat.le_refl _) (.cells #[.int .i64 p0, .int .i64 p1, .int .i64 p2, .slice A3 n3 c3, .slice A4 n4 c4, .slice A5 n5 c5, .slice A6 n6 c6, .int .i64 p7] 35))
 generalize mOwners l6 1 = J at CO CM HON ⊢
 clear r3 r4 r5 r6 hl6 hJl
 go_enter Tryz.func146, Tryz.ntmps146
 go_wp2_with fail
 cases hq : J.all (fun o => mHG l3 1 o) with
 | true =>
  have hz : ∀ z : Nat, (z = 0 ↔ ∀ id, (decide (id ∈ J) && !mHG l3 1 id) = false) → z = 0 := fun z h => h.2 (HON.out.2 hq)
  have HQ0 := Lib.hid hq
  clear hq HON
  refine wp_region_held_drew (S := fun w' => BoxAt w' w.heap.size 35 #[.int .i64 p0, .int .i64 p1, .int .i64 p2, .slice A3 n3 c3, .slice A4 n4 c4, .slice A5 n5 c5, .slice A6 n6 c6, .int .i64 p7] ∧ Below w.heap.size w w') (by kernel_rfl) ?_ (fun hHeld => ?_)
  ·
   exact ⟨KB0.out.drw, HB0.out.drew⟩
  refine tz 0 5 hHeld ?_; try simp only [ptl]
  refine tl 1 6 hHeld rfl ?_ (by intro W hS; obtain ⟨c0_0, c0_1, c0_2, c0_3, c0_4, c0_5, c0_6, c0_7⟩ := (hS.1).p8; clear hS; go_simp; try with_reducible rfl); try simp only [ptl]
  refine tz 2 7 hHeld ?_; try simp only [ptl]
  refine tl 3 8 hHeld rfl ?_ (by intro W hS; obtain ⟨c0_0, c0_1, c0_2, c0_3, c0_4, c0_5, c0_6, c0_7⟩ := (hS.1).p8; clear hS; go_simp; try with_reducible rfl); try simp only [ptl]
  refine rd1 (i := 4) (o := ⟨some 9, _, _, _, _, _⟩) rfl (fun K hK => ?_)
  go_simp
  refine Calls.mono (CO.out _ hHeld.2) ?_
  rintro e x1 ⟨AJ, cJ, rfl, GF, hb1⟩
  refine hK.out _ _ ⟨hHeld.1.new hb1, below_trans hHeld.2 hb1 (Nat.le_refl _)⟩ (fun hHeld' => ?_)
  clear hK K hHeld hb1; have hHeld := hHeld'; clear hHeld'
  try simp only [ptl]
  refine rd1 (i := 5) (o := ⟨some 10, _, _, _, _, _⟩) rfl (fun K hK => ?_)
  go_simp
  refine Calls.mono (CM.out _ hHeld.2 _ _ _ _ GF.rd) ?_
  rintro e x2 ⟨b, m, rfl, GM, hb1⟩
  replace GF := GF.new hb1
  refine hK.out _ _ ⟨hHeld.1.new hb1, below_trans hHeld.2 hb1 (Nat.le_refl _)⟩ (fun hHeld' => ?_)
  clear hK K hHeld hb1; have hHeld := hHeld'; clear hHeld'
  try simp only [ptl]
  refine rd1 (i := 6) (o := ⟨some 11, _, _, _, _, _⟩) rfl (fun K hK => ?_)
  rw [if_pos (by rfl)]
  refine wp_set_len_op _ _ rfl HT.out b m (by rfl) _ GM ?_
  intro z hz1
  obtain rfl := hz z hz1
  refine hK.out _ _ hHeld (fun hHeld' => ?_)
  clear hK K hHeld; have hHeld := hHeld'; clear hHeld'
  try simp only [ptl]
  refine tz 7 12 hHeld ?_; try simp only [ptl]
  refine tz 8 4 hHeld ?_; try simp only [ptl]
  refine wpAnyH_done (by kernel_rfl) ?_ _
  go_wp2_with fail
  go_ret
  exact ⟨by rw [HQ0.out]; rfl, hHeld.2⟩
 | false =>
  have hz : ∀ z : Nat, (z = 0 ↔ ∀ id, (decide (id ∈ J) && !mHG l3 1 id) = false) → decide ((0 : Int) < (z : Int)) = true := fun z h => by
   have : ¬ z = 0 := fun e => by rw [HON.out.1 (h.1 e)] at hq; cases hq
   simp; omega
  have HQ0 := Lib.hid hq
  clear hq HON
  refine wp_region_held_drew (S := fun w' => BoxAt w' w.heap.size 35 #[.int .i64 p0, .int .i64 p1, .int .i64 p2, .slice A3 n3 c3, .slice A4 n4 c4, .slice A5 n5 c5, .slice A6 n6 c6, .int .i64 p7] ∧ Below w.heap.size w w') (by kernel_rfl) ?_ (fun hHeld => ?_)
  ·
   exact ⟨KB0.out.drw, HB0.out.drew⟩
  refine tz 0 5 hHeld ?_; try simp only [ptl]
  refine tl 1 6 hHeld rfl ?_ (by intro W hS; obtain ⟨c0_0, c0_1, c0_2, c0_3, c0_4, c0_5, c0_6, c0_7⟩ := (hS.1).p8; clear hS; go_simp; try with_reducible rfl); try simp only [ptl]
  refine tz 2 7 hHeld ?_; try simp only [ptl]
  refine tl 3 8 hHeld rfl ?_ (by intro W hS; obtain ⟨c0_0, c0_1, c0_2, c0_3, c0_4, c0_5, c0_6, c0_7⟩ := (hS.1).p8; clear hS; go_simp; try with_reducible rfl); try simp only [ptl]
  refine rd1 (i := 4) (o := ⟨some 9, _, _, _, _, _⟩) rfl (fun K hK => ?_)
  go_simp
  refine Calls.mono (CO.out _ hHeld.2) ?_
  rintro e x1 ⟨AJ, cJ, rfl, GF, hb1⟩
  refine hK.out _ _ ⟨hHeld.1.new hb1, below_trans hHeld.2 hb1 (Nat.le_refl _)⟩ (fun hHeld' => ?_)
  clear hK K hHeld hb1; have hHeld := hHeld'; clear hHeld'
  try simp only [ptl]
  refine rd1 (i := 5) (o := ⟨some 10, _, _, _, _, _⟩) rfl (fun K hK => ?_)
  go_simp
  refine Calls.mono (CM.out _ hHeld.2 _ _ _ _ GF.rd) ?_
  rintro e x2 ⟨b, m, rfl, GM, hb1⟩
  replace GF := GF.new hb1
  refine hK.out _ _ ⟨hHeld.1.new hb1, below_trans hHeld.2 hb1 (Nat.le_refl _)⟩ (fun hHeld' => ?_)
  clear hK K hHeld hb1; have hHeld := hHeld'; clear hHeld'
  try simp only [ptl]
  refine rd1 (i := 6) (o := ⟨some 11, _, _, _, _, _⟩) rfl (fun K hK => ?_)
  rw [if_pos (by rfl)]
  refine wp_set_len_op _ _ rfl HT.out b m (by rfl) _ GM ?_
  intro z hz1
  have hz2 := hz z hz1
  have hz3 : decide (0 < z) = true := (by simpa using hz2)
  refine hK.out _ _ hHeld (fun hHeld' => ?_)
  clear hK K hHeld; have hHeld := hHeld'; clear hHeld'
  try simp only [ptl]
  refine tz 7 12 hHeld ?_; try simp only [ptl]
  refine tz 8 4 hHeld ?_; try simp only [ptl]
  refine wpAnyH_done (by kernel_rfl) ?_ _
  go_wp2_with fail
  go_ret
  exact ⟨by rw [HQ0.out]; rfl, hHeld.2⟩
set_option maxHeartbeats 8000000 in
theorem chk_6 (a0 : Int) (p0 p1 p2 : Int) (l3 : List TGrant) (A3 : Option Addr) (n3 c3 lo3 hi3 : Nat) (l4 : List TFlow) (A4 : Option Addr) (n4 c4 lo4 hi4 : Nat) (l5 : List TRule) (A5 : Option Addr) (n5 c5 lo5 hi5 : Nat) (l6 : List TOp) (A6 : Option Addr) (n6 c6 lo6 hi6 : Nat) (p7 : Int) (w : World) (h3 : n3 ≤ 1048576) (r3 : Rd w lo3 hi3 7 A3 n3 (cGrant l3)) (k3 : n3 ≤ c3) (b3 : Hid (cGrantOk l3)) (h4 : n4 ≤ 1048576) (r4 : Rd w lo4 hi4 3 A4 n4 (cFlow l4)) (k4 : n4 ≤ c4) (b4 : Hid (cFlowOk l4)) (h5 : n5 ≤ 1048576) (r5 : Rd w lo5 hi5 8 A5 n5 (cRule l5)) (k5 : n5 ≤ c5) (b5 : Hid (cRuleOk l5)) (h6 : n6 ≤ 1048576) (r6 : Rd w lo6 hi6 4 A6 n6 (cOp l6)) (k6 : n6 ≤ c6) (b6 : Hid (cOpOk l6)) :
  Calls Tryz.prog 149 #[.int .i64 a0, .agg #[.int .i64 p0, .int .i64 p1, .int .i64 p2, .slice A3 n3 c3, .slice A4 n4 c4, .slice A5 n5 c5, .slice A6 n6 c6, .int .i64 p7]] w (Says (.bool (!((mOwners l6 5).all fun o => mHG l3 3 o))) w) := by
 have HT : Hid (Tryz.prog.underlying 190 = some (.map 3 4)) := Lib.hid Tryz.underlying190
 have CO := Lib.hid (fun W (hb : Below w.heap.size w W) => impl_OwnersSentC l6 A6 n6 c6 lo6 hi6 W h6 (r6.new hb) k6 b6)
 have hl6 : l6.length = n6 := rd_len TOp.len r6 (by decide)
 have hJl : (mOwners l6 5).length ≤ 1048576 := Nat.le_trans (mOwners_len l6 5) (by omega)
 have CM := Lib.hid (fun W (hb : Below w.heap.size w W) (AJ : Option Addr) (cJ loJ hiJ : Nat) (hr : Rd W loJ hiJ 1 AJ (mOwners l6 5).length (i64s (mOwners l6 5))) => impl_openOwners l3 A3 n3 c3 lo3 hi3 3 (mOwners l6 5) AJ (mOwners l6 5).length cJ loJ hiJ W h3 (r3.new hb) b3 hJl hr (Lib.hid (owners_i64 5 b6.out)))
 have HON := Lib.hid (open_none (l := l3) (a1 := 3) (J := mOwners l6 5))
 have KB0 := Lib.hid (box_new w 35 #[.int .i64 p0, .int .i64 p1, .int .i64 p2, .slice A3 n3 c3, .slice A4 n4 c4, .slice A5 n5 c5, .slice A6 n6 c6, .int .i64 p7])
 have HB0 := Lib.hid ((Below.refl w.heap.size w).alloc (Nat.le_refl _) (.cells #[.int .i64 p0, .int .i64 p1, .int .i64 p2, .slice A3 n3 c3, .slice A4 n4 c4, .slice A5 n5 c5, .slice A6 n6 c6, .int .i64 p7] 35))
 generalize mOwners l6 5 = J at CO CM HON ⊢
 clear r3 r4 r5 r6 hl6 hJl
 go_enter Tryz.func149, Tryz.ntmps149
 go_wp2_with fail
 cases hq : J.all (fun o => mHG l3 3 o) with
 | true =>
  have hz : ∀ z : Nat, (z = 0 ↔ ∀ id, (decide (id ∈ J) && !mHG l3 3 id) = false) → z = 0 := fun z h => h.2 (HON.out.2 hq)
  have HQ0 := Lib.hid hq
  clear hq HON
  refine wp_region_held_drew (S := fun w' => BoxAt w' w.heap.size 35 #[.int .i64 p0, .int .i64 p1, .int .i64 p2, .slice A3 n3 c3, .slice A4 n4 c4, .slice A5 n5 c5, .slice A6 n6 c6, .int .i64 p7] ∧ Below w.heap.size w w') (by kernel_rfl) ?_ (fun hHeld => ?_)
  ·
   exact ⟨KB0.out.drw, HB0.out.drew⟩
  refine tz 0 5 hHeld ?_; try simp only [ptl]
  refine tl 1 6 hHeld rfl ?_ (by intro W hS; obtain ⟨c0_0, c0_1, c0_2, c0_3, c0_4, c0_5, c0_6, c0_7⟩ := (hS.1).p8; clear hS; go_simp; try with_reducible rfl); try simp only [ptl]
  refine tz 2 7 hHeld ?_; try simp only [ptl]
  refine tl 3 8 hHeld rfl ?_ (by intro W hS; obtain ⟨c0_0, c0_1, c0_2, c0_3, c0_4, c0_5, c0_6, c0_7⟩ := (hS.1).p8; clear hS; go_simp; try with_reducible rfl); try simp only [ptl]
  refine rd1 (i := 4) (o := ⟨some 9, _, _, _, _, _⟩) rfl (fun K hK => ?_)
  go_simp
  refine Calls.mono (CO.out _ hHeld.2) ?_
  rintro e x1 ⟨AJ, cJ, rfl, GF, hb1⟩
  refine hK.out _ _ ⟨hHeld.1.new hb1, below_trans hHeld.2 hb1 (Nat.le_refl _)⟩ (fun hHeld' => ?_)
  clear hK K hHeld hb1; have hHeld := hHeld'; clear hHeld'
  try simp only [ptl]
  refine rd1 (i := 5) (o := ⟨some 10, _, _, _, _, _⟩) rfl (fun K hK => ?_)
  go_simp
  refine Calls.mono (CM.out _ hHeld.2 _ _ _ _ GF.rd) ?_
  rintro e x2 ⟨b, m, rfl, GM, hb1⟩
  replace GF := GF.new hb1
  refine hK.out _ _ ⟨hHeld.1.new hb1, below_trans hHeld.2 hb1 (Nat.le_refl _)⟩ (fun hHeld' => ?_)
  clear hK K hHeld hb1; have hHeld := hHeld'; clear hHeld'
  try simp only [ptl]
  refine rd1 (i := 6) (o := ⟨some 11, _, _, _, _, _⟩) rfl (fun K hK => ?_)
  rw [if_pos (by rfl)]
  refine wp_set_len_op _ _ rfl HT.out b m (by rfl) _ GM ?_
  intro z hz1
  obtain rfl := hz z hz1
  refine hK.out _ _ hHeld (fun hHeld' => ?_)
  clear hK K hHeld; have hHeld := hHeld'; clear hHeld'
  try simp only [ptl]
  refine tz 7 12 hHeld ?_; try simp only [ptl]
  refine tz 8 4 hHeld ?_; try simp only [ptl]
  refine wpAnyH_done (by kernel_rfl) ?_ _
  go_wp2_with fail
  go_ret
  exact ⟨by rw [HQ0.out]; rfl, hHeld.2⟩
 | false =>
  have hz : ∀ z : Nat, (z = 0 ↔ ∀ id, (decide (id ∈ J) && !mHG l3 3 id) = false) → decide ((0 : Int) < (z : Int)) = true := fun z h => by
   have : ¬ z = 0 := fun e => by rw [HON.out.1 (h.1 e)] at hq; cases hq
   simp; omega
  have HQ0 := Lib.hid hq
  clear hq HON
  refine wp_region_held_drew (S := fun w' => BoxAt w' w.heap.size 35 #[.int .i64 p0, .int .i64 p1, .int .i64 p2, .slice A3 n3 c3, .slice A4 n4 c4, .slice A5 n5 c5, .slice A6 n6 c6, .int .i64 p7] ∧ Below w.heap.size w w') (by kernel_rfl) ?_ (fun hHeld => ?_)
  ·
   exact ⟨KB0.out.drw, HB0.out.drew⟩
  refine tz 0 5 hHeld ?_; try simp only [ptl]
  refine tl 1 6 hHeld rfl ?_ (by intro W hS; obtain ⟨c0_0, c0_1, c0_2, c0_3, c0_4, c0_5, c0_6, c0_7⟩ := (hS.1).p8; clear hS; go_simp; try with_reducible rfl); try simp only [ptl]
  refine tz 2 7 hHeld ?_; try simp only [ptl]
  refine tl 3 8 hHeld rfl ?_ (by intro W hS; obtain ⟨c0_0, c0_1, c0_2, c0_3, c0_4, c0_5, c0_6, c0_7⟩ := (hS.1).p8; clear hS; go_simp; try with_reducible rfl); try simp only [ptl]
  refine rd1 (i := 4) (o := ⟨some 9, _, _, _, _, _⟩) rfl (fun K hK => ?_)
  go_simp
  refine Calls.mono (CO.out _ hHeld.2) ?_
  rintro e x1 ⟨AJ, cJ, rfl, GF, hb1⟩
  refine hK.out _ _ ⟨hHeld.1.new hb1, below_trans hHeld.2 hb1 (Nat.le_refl _)⟩ (fun hHeld' => ?_)
  clear hK K hHeld hb1; have hHeld := hHeld'; clear hHeld'
  try simp only [ptl]
  refine rd1 (i := 5) (o := ⟨some 10, _, _, _, _, _⟩) rfl (fun K hK => ?_)
  go_simp
  refine Calls.mono (CM.out _ hHeld.2 _ _ _ _ GF.rd) ?_
  rintro e x2 ⟨b, m, rfl, GM, hb1⟩
  replace GF := GF.new hb1
  refine hK.out _ _ ⟨hHeld.1.new hb1, below_trans hHeld.2 hb1 (Nat.le_refl _)⟩ (fun hHeld' => ?_)
  clear hK K hHeld hb1; have hHeld := hHeld'; clear hHeld'
  try simp only [ptl]
  refine rd1 (i := 6) (o := ⟨some 11, _, _, _, _, _⟩) rfl (fun K hK => ?_)
  rw [if_pos (by rfl)]
  refine wp_set_len_op _ _ rfl HT.out b m (by rfl) _ GM ?_
  intro z hz1
  have hz2 := hz z hz1
  have hz3 : decide (0 < z) = true := (by simpa using hz2)
  refine hK.out _ _ hHeld (fun hHeld' => ?_)
  clear hK K hHeld; have hHeld := hHeld'; clear hHeld'
  try simp only [ptl]
  refine tz 7 12 hHeld ?_; try simp only [ptl]
  refine tz 8 4 hHeld ?_; try simp only [ptl]
  refine wpAnyH_done (by kernel_rfl) ?_ _
  go_wp2_with fail
  go_ret
  exact ⟨by rw [HQ0.out]; rfl, hHeld.2⟩
set_option maxHeartbeats 16000000 in
theorem impl_ReviewPackageC (a0 : Int) (p0 p1 p2 : Int) (l3 : List TGrant) (A3 : Option Addr) (n3 c3 lo3 hi3 : Nat) (l4 : List TFlow) (A4 : Option Addr) (n4 c4 lo4 hi4 : Nat) (l5 : List TRule) (A5 : Option Addr) (n5 c5 lo5 hi5 : Nat) (l6 : List TOp) (A6 : Option Addr) (n6 c6 lo6 hi6 : Nat) (p7 : Int) (w : World) (hT : Pow10 w) (wf0 : (Lit.int .i64 a0).wf = true) (h3 : n3 ≤ 1048576) (r3 : Rd w lo3 hi3 7 A3 n3 (cGrant l3)) (k3 : n3 ≤ c3) (b3 : Hid (cGrantOk l3)) (h4 : n4 ≤ 1048576) (r4 : Rd w lo4 hi4 3 A4 n4 (cFlow l4)) (k4 : n4 ≤ c4) (b4 : Hid (cFlowOk l4)) (h5 : n5 ≤ 1048576) (r5 : Rd w lo5 hi5 8 A5 n5 (cRule l5)) (k5 : n5 ≤ c5) (b5 : Hid (cRuleOk l5)) (h6 : n6 ≤ 1048576) (r6 : Rd w lo6 hi6 4 A6 n6 (cOp l6)) (k6 : n6 ≤ c6) (b6 : Hid (cOpOk l6)) :
  Calls Tryz.prog 38 #[.int .i64 a0, .agg #[.int .i64 p0, .int .i64 p1, .int .i64 p2, .slice A3 n3 c3, .slice A4 n4 c4, .slice A5 n5 c5, .slice A6 n6 c6, .int .i64 p7]] w (Says (.int .i64 (mRev a0 p0 p1 p2 l3 l4 l5 l6 p7)) w) := by
 have C1 := Lib.hid (fun W => chk_1 a0 p0 p1 p2 A3 n3 c3 A4 n4 c4 A5 n5 c5 A6 n6 c6 p7 W)
 have C2 := Lib.hid (fun W (hb : Below w.heap.size w W) => chk_2 a0 p0 p1 p2 A3 n3 c3 A4 n4 c4 A5 n5 c5 A6 n6 c6 p7 _ W (Lib.hid fun V hV => impl_IsPackageC p0 p1 p2 l3 A3 n3 c3 lo3 hi3 l4 A4 n4 c4 lo4 hi4 l5 A5 n5 c5 lo5 hi5 l6 A6 n6 c6 lo6 hi6 p7 V h3 ((r3.new hb).new hV) k3 b3 h4 ((r4.new hb).new hV) k4 b4 h5 ((r5.new hb).new hV) k5 b5 h6 ((r6.new hb).new hV) k6 b6))
 have C3 := Lib.hid (fun W (hb : Below w.heap.size w W) => chk_3 a0 p0 p1 p2 A3 n3 c3 A4 n4 c4 A5 n5 c5 A6 n6 c6 p7 _ W (Lib.hid fun V hV => impl_IsSealedC a0 p0 p1 p2 l3 A3 n3 c3 lo3 hi3 l4 A4 n4 c4 lo4 hi4 l5 A5 n5 c5 lo5 hi5 l6 A6 n6 c6 lo6 hi6 p7 V (pow10_below hT (below_trans hb hV (Nat.le_refl _))) wf0 h3 ((r3.new hb).new hV) k3 b3 h4 ((r4.new hb).new hV) k4 b4 h5 ((r5.new hb).new hV) k5 b5 h6 ((r6.new hb).new hV) k6 b6))
 have C4 := Lib.hid (fun W (hb : Below w.heap.size w W) => chk_4 a0 p0 p1 p2 A3 n3 c3 A4 n4 c4 A5 n5 c5 A6 n6 c6 p7 _ W (Lib.hid fun V hV => impl_rulesIn l3 A3 n3 c3 lo3 hi3 l5 A5 n5 c5 lo5 hi5 V h3 ((r3.new hb).new hV) k3 h5 ((r5.new hb).new hV) k5))
 have C5 := Lib.hid (fun W (hb : Below w.heap.size w W) => chk_5 a0 p0 p1 p2 l3 A3 n3 c3 lo3 hi3 l4 A4 n4 c4 lo4 hi4 l5 A5 n5 c5 lo5 hi5 l6 A6 n6 c6 lo6 hi6 p7 W h3 (r3.new hb) k3 b3 h4 (r4.new hb) k4 b4 h5 (r5.new hb) k5 b5 h6 (r6.new hb) k6 b6)
 have C6 := Lib.hid (fun W (hb : Below w.heap.size w W) => chk_6 a0 p0 p1 p2 l3 A3 n3 c3 lo3 hi3 l4 A4 n4 c4 lo4 hi4 l5 A5 n5 c5 lo5 hi5 l6 A6 n6 c6 lo6 hi6 p7 W h3 (r3.new hb) k3 b3 h4 (r4.new hb) k4 b4 h5 (r5.new hb) k5 b5 h6 (r6.new hb) k6 b6)
 have C7 := Lib.hid (fun W (hb : Below w.heap.size w W) (we : (Lit.int .i64 p0).wf = true) => chk_7 a0 p0 p1 p2 A3 n3 c3 A4 n4 c4 A5 n5 c5 A6 n6 c6 p7 _ W (Lib.hid fun V hV => impl_IsTightForC l6 A6 n6 c6 lo6 hi6 l4 A4 n4 c4 lo4 hi4 p0 V h6 ((r6.new hb).new hV) k6 b6 h4 ((r4.new hb).new hV) k4 b4 we))
 have HW := Lib.hid (show mIsPack p0 p1 p2 l3 l4 l5 l6 = true → (Lit.int .i64 p0).wf = true from fun h => by
  simp only [mIsPack, Bool.and_eq_true] at h
  have := inR_true.1 h.1.1.1.1.1.1
  exact WalkArith.wf_i64 (by omega))
 have HR := Lib.hid (show mRev a0 p0 p1 p2 l3 l4 l5 l6 p7 = (if mIsPack p0 p1 p2 l3 l4 l5 l6 = false then 1 else if mIsSealed a0 p0 p1 p2 l3 l4 l5 l6 p7 = false then 2 else if mRulesIn l3 l5 = false then 3 else if ((mOwners l6 1).all fun o => mHG l3 1 o) = false then 4 else if ((mOwners l6 5).all fun o => mHG l3 3 o) = false then 5 else if mTight l6 l4 p0 = false then 6 else 0) from rfl)
 generalize mRev a0 p0 p1 p2 l3 l4 l5 l6 p7 = R at HR ⊢
 generalize mIsPack p0 p1 p2 l3 l4 l5 l6 = q1 at C2 HW HR
 generalize mIsSealed a0 p0 p1 p2 l3 l4 l5 l6 p7 = q2 at C3 HR
 generalize mRulesIn l3 l5 = q3 at C4 HR
 generalize ((mOwners l6 1).all fun o => mHG l3 1 o) = q4 at C5 HR
 generalize ((mOwners l6 5).all fun o => mHG l3 3 o) = q5 at C6 HR
 generalize mTight l6 l4 p0 = q6 at C7 HR
 clear r3 r4 r5 r6 hT wf0
 have KP0 := Lib.hid (box_new w 35 #[.int .i64 p0, .int .i64 p1, .int .i64 p2, .slice A3 n3 c3, .slice A4 n4 c4, .slice A5 n5 c5, .slice A6 n6 c6, .int .i64 p7])
 have HB0 := Lib.hid ((Below.refl w.heap.size w).alloc (Nat.le_refl _) (.cells #[.int .i64 p0, .int .i64 p1, .int .i64 p2, .slice A3 n3 c3, .slice A4 n4 c4, .slice A5 n5 c5, .slice A6 n6 c6, .int .i64 p7] 35))
 go_enter Tryz.func38, Tryz.ntmps38
 go_wp2_with fail
 refine (impl_reviewChecks _).mono ?_
 rintro e w1 ⟨rfl, rfl⟩
 have KT := Lib.hid (show BoxAt ((w.alloc (.cells #[.int .i64 p0, .int .i64 p1, .int .i64 p2, .slice A3 n3 c3, .slice A4 n4 c4, .slice A5 n5 c5, .slice A6 n6 c6, .int .i64 p7] 35)).alloc (.cells #[.string ⟨#[102, 105, 110, 101]⟩, .func (.func 140) #[] #[], .string ⟨#[102, 111, 114, 109]⟩, .func (.func 141) #[] #[], .string ⟨#[115, 101, 97, 108]⟩, .func (.func 142) #[] #[], .string ⟨#[114, 117, 108, 101]⟩, .func (.func 144) #[] #[], .string ⟨#[114, 101, 97, 100]⟩, .func (.func 146) #[] #[], .string ⟨#[115, 101, 110, 100]⟩, .func (.func 149) #[] #[], .string ⟨#[102, 108, 111, 119]⟩, .func (.func 151) #[] #[]] 142)) (w.heap.size + 1) 142 #[.string ⟨#[102, 105, 110, 101]⟩, .func (.func 140) #[] #[], .string ⟨#[102, 111, 114, 109]⟩, .func (.func 141) #[] #[], .string ⟨#[115, 101, 97, 108]⟩, .func (.func 142) #[] #[], .string ⟨#[114, 117, 108, 101]⟩, .func (.func 144) #[] #[], .string ⟨#[114, 101, 97, 100]⟩, .func (.func 146) #[] #[], .string ⟨#[115, 101, 110, 100]⟩, .func (.func 149) #[] #[], .string ⟨#[102, 108, 111, 119]⟩, .func (.func 151) #[] #[]] by simpa using box_new (w.alloc (.cells #[.int .i64 p0, .int .i64 p1, .int .i64 p2, .slice A3 n3 c3, .slice A4 n4 c4, .slice A5 n5 c5, .slice A6 n6 c6, .int .i64 p7] 35)) 142 #[.string ⟨#[102, 105, 110, 101]⟩, .func (.func 140) #[] #[], .string ⟨#[102, 111, 114, 109]⟩, .func (.func 141) #[] #[], .string ⟨#[115, 101, 97, 108]⟩, .func (.func 142) #[] #[], .string ⟨#[114, 117, 108, 101]⟩, .func (.func 144) #[] #[], .string ⟨#[114, 101, 97, 100]⟩, .func (.func 146) #[] #[], .string ⟨#[115, 101, 110, 100]⟩, .func (.func 149) #[] #[], .string ⟨#[102, 108, 111, 119]⟩, .func (.func 151) #[] #[]])
 have KP := Lib.hid (KP0.out.alloc_ (.cells #[.string ⟨#[102, 105, 110, 101]⟩, .func (.func 140) #[] #[], .string ⟨#[102, 111, 114, 109]⟩, .func (.func 141) #[] #[], .string ⟨#[115, 101, 97, 108]⟩, .func (.func 142) #[] #[], .string ⟨#[114, 117, 108, 101]⟩, .func (.func 144) #[] #[], .string ⟨#[114, 101, 97, 100]⟩, .func (.func 146) #[] #[], .string ⟨#[115, 101, 110, 100]⟩, .func (.func 149) #[] #[], .string ⟨#[102, 108, 111, 119]⟩, .func (.func 151) #[] #[]] 142))
 have HB := Lib.hid (HB0.out.alloc (by simp) (.cells #[.string ⟨#[102, 105, 110, 101]⟩, .func (.func 140) #[] #[], .string ⟨#[102, 111, 114, 109]⟩, .func (.func 141) #[] #[], .string ⟨#[115, 101, 97, 108]⟩, .func (.func 142) #[] #[], .string ⟨#[114, 117, 108, 101]⟩, .func (.func 144) #[] #[], .string ⟨#[114, 101, 97, 100]⟩, .func (.func 146) #[] #[], .string ⟨#[115, 101, 110, 100]⟩, .func (.func 149) #[] #[], .string ⟨#[102, 108, 111, 119]⟩, .func (.func 151) #[] #[]] 142))
 clear KP0 HB0
 have hsz0 : (w.alloc (.cells #[.int .i64 p0, .int .i64 p1, .int .i64 p2, .slice A3 n3 c3, .slice A4 n4 c4, .slice A5 n5 c5, .slice A6 n6 c6, .int .i64 p7] 35)).heap.size = w.heap.size + 1 := by simp
 rw [hsz0]
 generalize (w.alloc (.cells #[.int .i64 p0, .int .i64 p1, .int .i64 p2, .slice A3 n3 c3, .slice A4 n4 c4, .slice A5 n5 c5, .slice A6 n6 c6, .int .i64 p7] 35)).alloc (.cells #[.string ⟨#[102, 105, 110, 101]⟩, .func (.func 140) #[] #[], .string ⟨#[102, 111, 114, 109]⟩, .func (.func 141) #[] #[], .string ⟨#[115, 101, 97, 108]⟩, .func (.func 142) #[] #[], .string ⟨#[114, 117, 108, 101]⟩, .func (.func 144) #[] #[], .string ⟨#[114, 101, 97, 100]⟩, .func (.func 146) #[] #[], .string ⟨#[115, 101, 110, 100]⟩, .func (.func 149) #[] #[], .string ⟨#[102, 108, 111, 119]⟩, .func (.func 151) #[] #[]] 142) = w1 at KT KP HB ⊢
 clear hsz0
 go_wp2_with fail
 go_loopg [9] 7 (fun gg i wr => ∃ k : Nat, k ≤ 7 ∧ 7 - k ≤ gg ∧ i = .int .i64 k ∧ Hid ((2 ≤ k → q1 = true) ∧ (3 ≤ k → q2 = true) ∧ (4 ≤ k → q3 = true) ∧ (5 ≤ k → q4 = true) ∧ (6 ≤ k → q5 = true) ∧ (7 ≤ k → q6 = true)) ∧ Hid (BoxAt wr w.heap.size 35 #[.int .i64 p0, .int .i64 p1, .int .i64 p2, .slice A3 n3 c3, .slice A4 n4 c4, .slice A5 n5 c5, .slice A6 n6 c6, .int .i64 p7]) ∧ Hid (BoxAt wr (w.heap.size + 1) 142 #[.string ⟨#[102, 105, 110, 101]⟩, .func (.func 140) #[] #[], .string ⟨#[102, 111, 114, 109]⟩, .func (.func 141) #[] #[], .string ⟨#[115, 101, 97, 108]⟩, .func (.func 142) #[] #[], .string ⟨#[114, 117, 108, 101]⟩, .func (.func 144) #[] #[], .string ⟨#[114, 101, 97, 100]⟩, .func (.func 146) #[] #[], .string ⟨#[115, 101, 110, 100]⟩, .func (.func 149) #[] #[], .string ⟨#[102, 108, 111, 119]⟩, .func (.func 151) #[] #[]]) ∧ Hid (Below w.heap.size w wr))
 case atStart => exact ⟨0, by omega, by omega, rfl, Lib.hid ⟨by omega, by omega, by omega, by omega, by omega, by omega⟩, KP, KT, HB⟩
 case round =>
  obtain ⟨k, hk, hg, rfl, HQ, KP, KT, HB⟩ := hrel
  by_cases hlt : k < 7
  ·
   have hpl := KP.out.lt
   have htl := KT.out.lt
   have hsw := HB.out.size
   obtain rfl | rfl | rfl | rfl | rfl | rfl | rfl : k = 0 ∨ k = 1 ∨ k = 2 ∨ k = 3 ∨ k = 4 ∨ k = 5 ∨ k = 6 := by omega
   ·
    obtain ⟨t0, t1⟩ := KT.out.p2
    obtain ⟨k0_, k1_, k2_, k3_, k4_, k5_, k6_, k7_⟩ := KP.out.p8
    have hst := fun (W : World) (a : Addr) (cs : Array Value) (m : Mode) => store_fchk W a 140 cs m
    have KP1 := Lib.hid (KP.out.alloc_ (.cells #[.string ⟨#[102, 105, 110, 101]⟩, .func (.func 140) #[] #[]] 142))
    have KT1 := Lib.hid (KT.out.alloc_ (.cells #[.string ⟨#[102, 105, 110, 101]⟩, .func (.func 140) #[] #[]] 142))
    have HB1 := Lib.hid (HB.out.alloc hsw (.cells #[.string ⟨#[102, 105, 110, 101]⟩, .func (.func 140) #[] #[]] 142))
    go_wp2_with fail
    clear hst t0 t1 k0_ k1_ k2_ k3_ k4_ k5_ k6_ k7_
    refine (C1.out _).mono ?_
    rintro e w2 ⟨rfl, hb2⟩
    have KP2 := Lib.hid (KP1.out.new hb2)
    have KT2 := Lib.hid (KT1.out.new hb2)
    have HB2 := Lib.hid (below_trans HB1.out hb2 (Nat.le_refl _))
    clear hb2 KP1 KT1 HB1
    go_wp2_with fail
    go_roundg (7 - (0 + 1))
    case measure => omega
    case rel => exact ⟨0 + 1, by omega, by omega, by go_num, Lib.hid ⟨by omega, by omega, by omega, by omega, by omega, by omega⟩, KP2, KT2, HB2⟩
   ·
    have t0 := KT.out.at_ (j := 2) rfl
    have t1 := KT.out.at_ (j := 3) rfl
    obtain ⟨k0_, k1_, k2_, k3_, k4_, k5_, k6_, k7_⟩ := KP.out.p8
    have hst := fun (W : World) (a : Addr) (cs : Array Value) (m : Mode) => store_fchk W a 141 cs m
    have KP1 := Lib.hid (KP.out.alloc_ (.cells #[.string ⟨#[102, 111, 114, 109]⟩, .func (.func 141) #[] #[]] 142))
    have KT1 := Lib.hid (KT.out.alloc_ (.cells #[.string ⟨#[102, 111, 114, 109]⟩, .func (.func 141) #[] #[]] 142))
    have HB1 := Lib.hid (HB.out.alloc hsw (.cells #[.string ⟨#[102, 111, 114, 109]⟩, .func (.func 141) #[] #[]] 142))
    go_wp2_with fail
    clear hst t0 t1 k0_ k1_ k2_ k3_ k4_ k5_ k6_ k7_
    refine (C2.out _ HB1.out).mono ?_
    rintro e w2 ⟨rfl, hb2⟩
    have KP2 := Lib.hid (KP1.out.new hb2)
    have KT2 := Lib.hid (KT1.out.new hb2)
    have HB2 := Lib.hid (below_trans HB1.out hb2 (Nat.le_refl _))
    clear hb2 KP1 KT1 HB1
    cases q1 with
    | true =>
     go_wp2_with fail
     go_roundg (7 - (1 + 1))
     case measure => omega
     case rel => exact ⟨1 + 1, by omega, by omega, by go_num, Lib.hid ⟨fun _ => (by first | trivial | rfl), by omega, by omega, by omega, by omega, by omega⟩, KP2, KT2, HB2⟩
    | false =>
     have HE := Lib.hid (show R = 1 by rw [HR.out]; simp [])
     go_wp2_with fail
     go_ret
     exact ⟨by rw [HE.out]; rfl, HB2.out⟩
   ·
    have t0 := KT.out.at_ (j := 4) rfl
    have t1 := KT.out.at_ (j := 5) rfl
    obtain ⟨k0_, k1_, k2_, k3_, k4_, k5_, k6_, k7_⟩ := KP.out.p8
    have hst := fun (W : World) (a : Addr) (cs : Array Value) (m : Mode) => store_fchk W a 142 cs m
    have KP1 := Lib.hid (KP.out.alloc_ (.cells #[.string ⟨#[115, 101, 97, 108]⟩, .func (.func 142) #[] #[]] 142))
    have KT1 := Lib.hid (KT.out.alloc_ (.cells #[.string ⟨#[115, 101, 97, 108]⟩, .func (.func 142) #[] #[]] 142))
    have HB1 := Lib.hid (HB.out.alloc hsw (.cells #[.string ⟨#[115, 101, 97, 108]⟩, .func (.func 142) #[] #[]] 142))
    go_wp2_with fail
    clear hst t0 t1 k0_ k1_ k2_ k3_ k4_ k5_ k6_ k7_
    refine (C3.out _ HB1.out).mono ?_
    rintro e w2 ⟨rfl, hb2⟩
    have KP2 := Lib.hid (KP1.out.new hb2)
    have KT2 := Lib.hid (KT1.out.new hb2)
    have HB2 := Lib.hid (below_trans HB1.out hb2 (Nat.le_refl _))
    clear hb2 KP1 KT1 HB1
    cases q2 with
    | true =>
     go_wp2_with fail
     go_roundg (7 - (2 + 1))
     case measure => omega
     case rel => exact ⟨2 + 1, by omega, by omega, by go_num, Lib.hid ⟨fun _ => HQ.out.1 (by omega), fun _ => (by first | trivial | rfl), by omega, by omega, by omega, by omega⟩, KP2, KT2, HB2⟩
    | false =>
     have HE := Lib.hid (show R = 2 by rw [HR.out]; simp [HQ.out.1 (by omega)])
     go_wp2_with fail
     go_ret
     exact ⟨by rw [HE.out]; rfl, HB2.out⟩
   ·
    have t0 := KT.out.at_ (j := 6) rfl
    have t1 := KT.out.at_ (j := 7) rfl
    obtain ⟨k0_, k1_, k2_, k3_, k4_, k5_, k6_, k7_⟩ := KP.out.p8
    have hst := fun (W : World) (a : Addr) (cs : Array Value) (m : Mode) => store_fchk W a 144 cs m
    have KP1 := Lib.hid (KP.out.alloc_ (.cells #[.string ⟨#[114, 117, 108, 101]⟩, .func (.func 144) #[] #[]] 142))
    have KT1 := Lib.hid (KT.out.alloc_ (.cells #[.string ⟨#[114, 117, 108, 101]⟩, .func (.func 144) #[] #[]] 142))
    have HB1 := Lib.hid (HB.out.alloc hsw (.cells #[.string ⟨#[114, 117, 108, 101]⟩, .func (.func 144) #[] #[]] 142))
    go_wp2_with fail
    clear hst t0 t1 k0_ k1_ k2_ k3_ k4_ k5_ k6_ k7_
    refine (C4.out _ HB1.out).mono ?_
    rintro e w2 ⟨rfl, hb2⟩
    have KP2 := Lib.hid (KP1.out.new hb2)
    have KT2 := Lib.hid (KT1.out.new hb2)
    have HB2 := Lib.hid (below_trans HB1.out hb2 (Nat.le_refl _))
    clear hb2 KP1 KT1 HB1
    cases q3 with
    | true =>
     go_wp2_with fail
     go_roundg (7 - (3 + 1))
     case measure => omega
     case rel => exact ⟨3 + 1, by omega, by omega, by go_num, Lib.hid ⟨fun _ => HQ.out.1 (by omega), fun _ => HQ.out.2.1 (by omega), fun _ => (by first | trivial | rfl), by omega, by omega, by omega⟩, KP2, KT2, HB2⟩
    | false =>
     have HE := Lib.hid (show R = 3 by rw [HR.out]; simp [HQ.out.1 (by omega), HQ.out.2.1 (by omega)])
     go_wp2_with fail
     go_ret
     exact ⟨by rw [HE.out]; rfl, HB2.out⟩
   ·
    have t0 := KT.out.at_ (j := 8) rfl
    have t1 := KT.out.at_ (j := 9) rfl
    obtain ⟨k0_, k1_, k2_, k3_, k4_, k5_, k6_, k7_⟩ := KP.out.p8
    have hst := fun (W : World) (a : Addr) (cs : Array Value) (m : Mode) => store_fchk W a 146 cs m
    have KP1 := Lib.hid (KP.out.alloc_ (.cells #[.string ⟨#[114, 101, 97, 100]⟩, .func (.func 146) #[] #[]] 142))
    have KT1 := Lib.hid (KT.out.alloc_ (.cells #[.string ⟨#[114, 101, 97, 100]⟩, .func (.func 146) #[] #[]] 142))
    have HB1 := Lib.hid (HB.out.alloc hsw (.cells #[.string ⟨#[114, 101, 97, 100]⟩, .func (.func 146) #[] #[]] 142))
    go_wp2_with fail
    clear hst t0 t1 k0_ k1_ k2_ k3_ k4_ k5_ k6_ k7_
    refine (C5.out _ HB1.out).mono ?_
    rintro e w2 ⟨rfl, hb2⟩
    have KP2 := Lib.hid (KP1.out.new hb2)
    have KT2 := Lib.hid (KT1.out.new hb2)
    have HB2 := Lib.hid (below_trans HB1.out hb2 (Nat.le_refl _))
    clear hb2 KP1 KT1 HB1
    cases q4 with
    | true =>
     go_wp2_with fail
     go_roundg (7 - (4 + 1))
     case measure => omega
     case rel => exact ⟨4 + 1, by omega, by omega, by go_num, Lib.hid ⟨fun _ => HQ.out.1 (by omega), fun _ => HQ.out.2.1 (by omega), fun _ => HQ.out.2.2.1 (by omega), fun _ => (by first | trivial | rfl), by omega, by omega⟩, KP2, KT2, HB2⟩
    | false =>
     have HE := Lib.hid (show R = 4 by rw [HR.out]; simp [HQ.out.1 (by omega), HQ.out.2.1 (by omega), HQ.out.2.2.1 (by omega)])
     go_wp2_with fail
     go_ret
     exact ⟨by rw [HE.out]; rfl, HB2.out⟩
   ·
    have t0 := KT.out.at_ (j := 10) rfl
    have t1 := KT.out.at_ (j := 11) rfl
    obtain ⟨k0_, k1_, k2_, k3_, k4_, k5_, k6_, k7_⟩ := KP.out.p8
    have hst := fun (W : World) (a : Addr) (cs : Array Value) (m : Mode) => store_fchk W a 149 cs m
    have KP1 := Lib.hid (KP.out.alloc_ (.cells #[.string ⟨#[115, 101, 110, 100]⟩, .func (.func 149) #[] #[]] 142))
    have KT1 := Lib.hid (KT.out.alloc_ (.cells #[.string ⟨#[115, 101, 110, 100]⟩, .func (.func 149) #[] #[]] 142))
    have HB1 := Lib.hid (HB.out.alloc hsw (.cells #[.string ⟨#[115, 101, 110, 100]⟩, .func (.func 149) #[] #[]] 142))
    go_wp2_with fail
    clear hst t0 t1 k0_ k1_ k2_ k3_ k4_ k5_ k6_ k7_
    refine (C6.out _ HB1.out).mono ?_
    rintro e w2 ⟨rfl, hb2⟩
    have KP2 := Lib.hid (KP1.out.new hb2)
    have KT2 := Lib.hid (KT1.out.new hb2)
    have HB2 := Lib.hid (below_trans HB1.out hb2 (Nat.le_refl _))
    clear hb2 KP1 KT1 HB1
    cases q5 with
    | true =>
     go_wp2_with fail
     go_roundg (7 - (5 + 1))
     case measure => omega
     case rel => exact ⟨5 + 1, by omega, by omega, by go_num, Lib.hid ⟨fun _ => HQ.out.1 (by omega), fun _ => HQ.out.2.1 (by omega), fun _ => HQ.out.2.2.1 (by omega), fun _ => HQ.out.2.2.2.1 (by omega), fun _ => (by first | trivial | rfl), by omega⟩, KP2, KT2, HB2⟩
    | false =>
     have HE := Lib.hid (show R = 5 by rw [HR.out]; simp [HQ.out.1 (by omega), HQ.out.2.1 (by omega), HQ.out.2.2.1 (by omega), HQ.out.2.2.2.1 (by omega)])
     go_wp2_with fail
     go_ret
     exact ⟨by rw [HE.out]; rfl, HB2.out⟩
   ·
    have t0 := KT.out.at_ (j := 12) rfl
    have t1 := KT.out.at_ (j := 13) rfl
    obtain ⟨k0_, k1_, k2_, k3_, k4_, k5_, k6_, k7_⟩ := KP.out.p8
    have hst := fun (W : World) (a : Addr) (cs : Array Value) (m : Mode) => store_fchk W a 151 cs m
    have KP1 := Lib.hid (KP.out.alloc_ (.cells #[.string ⟨#[102, 108, 111, 119]⟩, .func (.func 151) #[] #[]] 142))
    have KT1 := Lib.hid (KT.out.alloc_ (.cells #[.string ⟨#[102, 108, 111, 119]⟩, .func (.func 151) #[] #[]] 142))
    have HB1 := Lib.hid (HB.out.alloc hsw (.cells #[.string ⟨#[102, 108, 111, 119]⟩, .func (.func 151) #[] #[]] 142))
    go_wp2_with fail
    clear hst t0 t1 k0_ k1_ k2_ k3_ k4_ k5_ k6_ k7_
    refine (C7.out _ HB1.out (HW.out (HQ.out.1 (by omega)))).mono ?_
    rintro e w2 ⟨rfl, hb2⟩
    have KP2 := Lib.hid (KP1.out.new hb2)
    have KT2 := Lib.hid (KT1.out.new hb2)
    have HB2 := Lib.hid (below_trans HB1.out hb2 (Nat.le_refl _))
    clear hb2 KP1 KT1 HB1
    cases q6 with
    | true =>
     go_wp2_with fail
     go_roundg (7 - (6 + 1))
     case measure => omega
     case rel => exact ⟨6 + 1, by omega, by omega, by go_num, Lib.hid ⟨fun _ => HQ.out.1 (by omega), fun _ => HQ.out.2.1 (by omega), fun _ => HQ.out.2.2.1 (by omega), fun _ => HQ.out.2.2.2.1 (by omega), fun _ => HQ.out.2.2.2.2.1 (by omega), fun _ => (by first | trivial | rfl)⟩, KP2, KT2, HB2⟩
    | false =>
     have HE := Lib.hid (show R = 6 by rw [HR.out]; simp [HQ.out.1 (by omega), HQ.out.2.1 (by omega), HQ.out.2.2.1 (by omega), HQ.out.2.2.2.1 (by omega), HQ.out.2.2.2.2.1 (by omega)])
     go_wp2_with fail
     go_ret
     exact ⟨by rw [HE.out]; rfl, HB2.out⟩
  ·
   obtain rfl : k = 7 := by omega
   have HE := Lib.hid (show R = 0 by rw [HR.out]; simp [HQ.out.1 (by omega), HQ.out.2.1 (by omega), HQ.out.2.2.1 (by omega), HQ.out.2.2.2.1 (by omega), HQ.out.2.2.2.2.1 (by omega), HQ.out.2.2.2.2.2 (by omega)])
   go_wp2_with fail
   go_ret
   exact ⟨by rw [HE.out]; rfl, HB.out⟩
end Go.Proofs.YtkedacmpmancbaaGreatDoor
namespace Go.Proofs.YtkedacmpmancbaaGreatDoor
open Go Go.ChangeShapes Go.WideShapes Go.ChangeAt Go.RowKit Go.Lib
set_option linter.unusedVariables false
set_option linter.unusedSimpArgs false
set_option maxRecDepth 100000

set_option maxHeartbeats 8000000 in
theorem spec_l27All (l : List TGrant) (A : Option Addr) (n c lo hi : Nat) (kind : Int) (J : List Int) (A2 : Option Addr) (n2 c2 lo2 hi2 : Nat) (w : World) (hn : n ≤ 1048576) (hr : Rd w lo hi 7 A n (cGrant l)) (H : Hid (cGrantOk l)) (wk : (Lit.int .i64 kind).wf = true) (hn2 : n2 ≤ 1048576) (hr2 : Rd w lo2 hi2 1 A2 n2 (i64s J)) (hJ : Hid (I64s J)) :
  Calls Tryz.prog 76 #[.slice A n c, .int .i64 kind, .slice A2 n2 c2] w (Says (.bool (J.all fun o => mHG l kind o)) w) := by
 have hJL : J.length = n2 := by simpa [i64s] using hr2.1
 have HJL := Lib.hid hJL
 have HR := Lib.hid hr
 have HR2 := Lib.hid hr2
 clear hr hr2 hJL
 go_enter Tryz.func76, Tryz.ntmps76
 go_wp2_with fail
 go_loopg [7] n2 (fun gg i wr => ∃ k : Nat, k ≤ n2 ∧ n2 - k ≤ gg ∧ i = .int .i64 k ∧ Hid ((J.take k).all (fun o => mHG l kind o) = true) ∧ Hid (Below w.heap.size w wr))
 case atStart => exact ⟨0, Nat.zero_le _, by omega, rfl, Lib.hid (by simp), Lib.hid (Below.refl _ _)⟩
 case round =>
  obtain ⟨k, hk, hg, rfl, HF, HB⟩ := hrel
  by_cases hlt : k < n2
  ·
   obtain ⟨b, off, z, rfl, _, _, hz, hc⟩ := rd_int (HR2.out.new HB.out) hlt
   have c0 : wr.cell? ⟨b, off + k, none⟩ = some (.int .i64 z) := by simpa using hc
   have HWz := Lib.hid (show (Lit.int .i64 z).wf = true from wf_get hJ.out hz)
   have CH := Lib.hid (spec_HasGrantFor l A n c lo hi kind z wr hn (HR.out.new HB.out) H wk HWz.out)
   have HZ := Lib.hid hz
   obtain ⟨q, hq⟩ : ∃ q, Hid (mHG l kind z = q) := ⟨_, Lib.hid rfl⟩
   rw [hq.out] at CH
   clear hz hc
   go_wp2_with fail
   refine CH.out.mono ?_
   rintro e w1 ⟨rfl, hb1⟩
   have HB1 := Lib.hid (below_trans HB.out hb1 (Nat.le_refl _))
   clear hb1 CH c0
   cases q with
   | true =>
    have HF2 := Lib.hid (show (J.take (k + 1)).all (fun o => mHG l kind o) = true by rw [List.take_add_one, HZ.out, Option.toList_some, List.all_append, HF.out]; simp [hq.out])
    go_wp2_with fail
    go_roundg (n2 - (k + 1))
    case measure => omega
    case rel => exact ⟨k + 1, by omega, by omega, by go_num, HF2, HB1⟩
   | false =>
    have HE := Lib.hid (show (J.all fun o => mHG l kind o) = false from List.all_eq_false.2 ⟨z, List.mem_of_getElem? HZ.out, by rw [hq.out]; simp⟩)
    go_wp2_with fail
    go_ret
    exact ⟨by rw [HE.out]; rfl, HB1.out⟩
  ·
   obtain rfl : k = n2 := by omega
   have HE := Lib.hid (show (J.all fun o => mHG l kind o) = true by have h := HF.out; rwa [List.take_of_length_le (by rw [HJL.out]; omega)] at h)
   go_wp2_with fail
   go_ret
   exact ⟨by rw [HE.out]; rfl, HB.out⟩
set_option maxHeartbeats 16000000 in
theorem spec_l27Rules (p0 p1 p2 : Int) (l3 : List TGrant) (A3 : Option Addr) (n3 c3 lo3 hi3 : Nat) (l4 : List TFlow) (A4 : Option Addr) (n4 c4 lo4 hi4 : Nat) (l5 : List TRule) (A5 : Option Addr) (n5 c5 lo5 hi5 : Nat) (l6 : List TOp) (A6 : Option Addr) (n6 c6 lo6 hi6 : Nat) (p7 : Int) (w : World) (h3 : n3 ≤ 1048576) (r3 : Rd w lo3 hi3 7 A3 n3 (cGrant l3)) (k3 : n3 ≤ c3) (b3 : Hid (cGrantOk l3)) (h4 : n4 ≤ 1048576) (r4 : Rd w lo4 hi4 3 A4 n4 (cFlow l4)) (k4 : n4 ≤ c4) (b4 : Hid (cFlowOk l4)) (h5 : n5 ≤ 1048576) (r5 : Rd w lo5 hi5 8 A5 n5 (cRule l5)) (k5 : n5 ≤ c5) (b5 : Hid (cRuleOk l5)) (h6 : n6 ≤ 1048576) (r6 : Rd w lo6 hi6 4 A6 n6 (cOp l6)) (k6 : n6 ≤ c6) (b6 : Hid (cOpOk l6)) :
  Calls Tryz.prog 75 #[.agg #[.int .i64 p0, .int .i64 p1, .int .i64 p2, .slice A3 n3 c3, .slice A4 n4 c4, .slice A5 n5 c5, .slice A6 n6 c6, .int .i64 p7]] w (Says (.bool (mRulesIn l3 l5)) w) := by
 have HL3 := Lib.hid (rd_len TGrant.len r3 (by decide))
 have HL5 := Lib.hid (rd_len TRule.len r5 (by decide))
 have HR3 := Lib.hid r3
 have HR5 := Lib.hid r5
 have KP0 := Lib.hid (box_new w 35 #[.int .i64 p0, .int .i64 p1, .int .i64 p2, .slice A3 n3 c3, .slice A4 n4 c4, .slice A5 n5 c5, .slice A6 n6 c6, .int .i64 p7])
 have HB0 := Lib.hid ((Below.refl w.heap.size w).alloc (Nat.le_refl _) (.cells #[.int .i64 p0, .int .i64 p1, .int .i64 p2, .slice A3 n3 c3, .slice A4 n4 c4, .slice A5 n5 c5, .slice A6 n6 c6, .int .i64 p7] 35))
 clear r3 r4 r5 r6
 go_enter Tryz.func75, Tryz.ntmps75
 go_wp2_with fail
 go_loopg [3] n5 (fun gg i wr => ∃ k : Nat, k ≤ n5 ∧ n5 - k ≤ gg ∧ i = .int .i64 k ∧ Hid ((l5.take k).all (mReach l3) = true) ∧ Hid (BoxAt wr w.heap.size 35 #[.int .i64 p0, .int .i64 p1, .int .i64 p2, .slice A3 n3 c3, .slice A4 n4 c4, .slice A5 n5 c5, .slice A6 n6 c6, .int .i64 p7]) ∧ Hid (Below w.heap.size w wr))
 case atStart => exact ⟨0, Nat.zero_le _, by omega, rfl, Lib.hid (by simp), KP0, HB0⟩
 case round =>
  obtain ⟨k, hk, hg, rfl, HF, KP, HB⟩ := hrel
  have p5 := KP.out.at_ (j := 5) rfl
  by_cases hlt : k < n5
  ·
   obtain ⟨br, or_, r, rfl, _, _, hzr, hcr⟩ := rd_elem TRule.len (HR5.out.new HB.out) HL5.out hlt
   have HZr := Lib.hid hzr
   clear hzr hcr
   obtain ⟨S, HS⟩ : ∃ S, Hid (mReach l3 r = S) := ⟨_, Lib.hid rfl⟩
   go_wp2_with fail
   clear p5
   go_loopg [4, 5] n3 (fun gg v i wr => ∃ (j : Nat) (s : Bool), j ≤ n3 ∧ n3 - j ≤ gg ∧ v = .bool s ∧ i = .int .i64 j ∧ Hid ((l3.take j).any (mNetG r) = s) ∧ Hid (BoxAt wr w.heap.size 35 #[.int .i64 p0, .int .i64 p1, .int .i64 p2, .slice A3 n3 c3, .slice A4 n4 c4, .slice (some ⟨br, or_, none⟩) n5 c5, .slice A6 n6 c6, .int .i64 p7]) ∧ Hid (Below w.heap.size w wr))
   case atStart => exact ⟨0, false, Nat.zero_le _, by omega, rfl, rfl, Lib.hid (by simp), KP, HB⟩
   case round =>
    clear KP HB
    obtain ⟨j, s, hj, hg2, rfl, rfl, HSj, KP, HB⟩ := hrel
    rename World => wr
    have p3 := KP.out.at_ (j := 3) rfl
    have p5 := KP.out.at_ (j := 5) rfl
    have hpl := KP.out.lt
    by_cases hlt2 : j < n3
    ·
     obtain ⟨bg, og, g, rfl, _, _, hzg, hcg⟩ := rd_elem TGrant.len (HR3.out.new HB.out) HL3.out hlt2
     obtain ⟨br', or', r', hAr, _, _, hzr2, hcr2⟩ := rd_elem TRule.len (HR5.out.new HB.out) HL5.out hlt
     obtain rfl : r = r' := Option.some.inj (HZr.out.symm.trans hzr2)
     injection hAr with hAr
     injection hAr with h1 h2 _
     subst h1
     subst h2
     have g1 : wr.cell? ⟨bg, og + j * 7 + 1, none⟩ = some (.int .i64 g.f1) := hcg 1 _ rfl
     have g2 : wr.cell? ⟨bg, og + j * 7 + 2, none⟩ = some (.int .i64 g.f2) := hcg 2 _ rfl
     have g3 : wr.cell? ⟨bg, og + j * 7 + 3, none⟩ = some (.int .i64 g.f3) := hcg 3 _ rfl
     have r2 : wr.cell? ⟨br, or_ + k * 8 + 2, none⟩ = some (.int .i64 r.f2) := hcr2 2 _ rfl
     have r3 : wr.cell? ⟨br, or_ + k * 8 + 3, none⟩ = some (.int .i64 r.f3) := hcr2 3 _ rfl
     have HSn := Lib.hid (show (l3.take (j + 1)).any (mNetG r) = (s || mNetG r g) by rw [any_snoc hzg, HSj.out])
     clear hzg hcg hzr2 hcr2 p3
     have hki3 : (j : Int) < (n3 : Int) := by omega
     have hki5 : (k : Int) < (n5 : Int) := by omega
     have CN := Lib.hid (fun W => spec_IsNarrower ⟨r.f2, r.f3⟩ ⟨g.f1, g.f2⟩ W)
     have HM := Lib.hid (show mNetG r g = (g.f3 == 3 && mIsNarrower ⟨r.f2, r.f3⟩ ⟨g.f1, g.f2⟩) from rfl)
     generalize mIsNarrower ⟨r.f2, r.f3⟩ ⟨g.f1, g.f2⟩ = q at CN HM
     clear p5
     cases s with
     | true =>
      have HSt := Lib.hid (show (l3.take (j + 1)).any (mNetG r) = true by rw [HSn.out]; rfl)
      have p3 := KP.out.at_ (j := 3) rfl
      go_upto_region 8 with fail
      clear p3
      refine wp_region_held_drew (S := fun w' => BoxAt w' w.heap.size 35 #[.int .i64 p0, .int .i64 p1, .int .i64 p2, .slice (some ⟨bg, og, none⟩) n3 c3, .slice A4 n4 c4, .slice (some ⟨br, or_, none⟩) n5 c5, .slice A6 n6 c6, .int .i64 p7] ∧ Below wr.heap.size wr w') (by kernel_rfl) ?_ (fun hHeld => ?_)
      ·
       exact ⟨KP.out.drw, (Below.refl _ _).drew⟩
      generalize (World.drew _) = x0 at hHeld ⊢
      refine tz 0 20 hHeld ?_; try simp only [ptl]
      refine tz 1 21 hHeld ?_; try simp only [ptl]
      refine tu (i := 2) (oi := ⟨some 22, _, _, _, _, _⟩) rfl hHeld ?_; try simp only [ptl]
      refine tu (i := 3) (oi := ⟨some 23, _, _, _, _, _⟩) rfl hHeld ?_; try simp only [ptl]
      refine tu (i := 4) (oi := ⟨some 24, _, _, _, _, _⟩) rfl hHeld ?_; try simp only [ptl]
      refine tu (i := 5) (oi := ⟨some 25, _, _, _, _, _⟩) rfl hHeld ?_; try simp only [ptl]
      refine tu (i := 6) (oi := ⟨some 26, _, _, _, _, _⟩) rfl hHeld ?_; try simp only [ptl]
      refine tu (i := 7) (oi := ⟨some 27, _, _, _, _, _⟩) rfl hHeld ?_; try simp only [ptl]
      refine tu (i := 8) (oi := ⟨some 28, _, _, _, _, _⟩) rfl hHeld ?_; try simp only [ptl]
      refine tu (i := 9) (oi := ⟨some 29, _, _, _, _, _⟩) rfl hHeld ?_; try simp only [ptl]
      refine tu (i := 10) (oi := ⟨some 30, _, _, _, _, _⟩) rfl hHeld ?_; try simp only [ptl]
      refine tu (i := 11) (oi := ⟨some 31, _, _, _, _, _⟩) rfl hHeld ?_; try simp only [ptl]
      refine tu (i := 12) (oi := ⟨some 32, _, _, _, _, _⟩) rfl hHeld ?_; try simp only [ptl]
      refine tu (i := 13) (oi := ⟨some 33, _, _, _, _, _⟩) rfl hHeld ?_; try simp only [ptl]
      refine tu (i := 14) (oi := ⟨some 34, _, _, _, _, _⟩) rfl hHeld ?_; try simp only [ptl]
      refine tu (i := 15) (oi := ⟨some 35, _, _, _, _, _⟩) rfl hHeld ?_; try simp only [ptl]
      refine tu (i := 16) (oi := ⟨some 36, _, _, _, _, _⟩) rfl hHeld ?_; try simp only [ptl]
      refine tu (i := 17) (oi := ⟨some 37, _, _, _, _, _⟩) rfl hHeld ?_; try simp only [ptl]
      refine tu (i := 18) (oi := ⟨some 38, _, _, _, _, _⟩) rfl hHeld ?_; try simp only [ptl]
      refine tu (i := 19) (oi := ⟨some 39, _, _, _, _, _⟩) rfl hHeld ?_; try simp only [ptl]
      refine tu (i := 20) (oi := ⟨some 40, _, _, _, _, _⟩) rfl hHeld ?_; try simp only [ptl]
      refine tu (i := 21) (oi := ⟨some 41, _, _, _, _, _⟩) rfl hHeld ?_; try simp only [ptl]
      refine tu (i := 22) (oi := ⟨some 42, _, _, _, _, _⟩) rfl hHeld ?_; try simp only [ptl]
      refine tu (i := 23) (oi := ⟨some 43, _, _, _, _, _⟩) rfl hHeld ?_; try simp only [ptl]
      refine tz 24 44 hHeld ?_; try simp only [ptl]
      refine tz 25 4 hHeld ?_; try simp only [ptl]
      refine wpAnyH_done (by kernel_rfl) ?_ _
      have KP1 := Lib.hid hHeld.1
      have HB1 := Lib.hid (below_trans HB.out hHeld.2 (Nat.le_refl _))
      clear hHeld g1 g2 g3 r2 r3 KP HB
      go_wp2_with fail
      go_roundg (n3 - (j + 1))
      case measure => omega
      case rel => exact ⟨j + 1, true, by omega, by omega, rfl, by go_num, HSt, KP1, HB1⟩
     | false =>
      cases h3 : (g.f3 == 3) with
      | false =>
       have HSt := Lib.hid (show (l3.take (j + 1)).any (mNetG r) = false by rw [HSn.out, HM.out, h3]; rfl)
       have p3 := KP.out.at_ (j := 3) rfl
       go_upto_region 8 with fail
       clear p3
       refine wp_region_held_drew (S := fun w' => BoxAt w' w.heap.size 35 #[.int .i64 p0, .int .i64 p1, .int .i64 p2, .slice (some ⟨bg, og, none⟩) n3 c3, .slice A4 n4 c4, .slice (some ⟨br, or_, none⟩) n5 c5, .slice A6 n6 c6, .int .i64 p7] ∧ Below wr.heap.size wr w') (by kernel_rfl) ?_ (fun hHeld => ?_)
       ·
        exact ⟨KP.out.drw, (Below.refl _ _).drew⟩
       generalize (World.drew _) = x0 at hHeld ⊢
       refine tz 0 20 hHeld ?_; try simp only [ptl]
       refine tz 1 21 hHeld ?_; try simp only [ptl]
       refine tz 2 22 hHeld ?_; try simp only [ptl]
       refine tl 3 23 hHeld rfl ?_ (by intro W hS; obtain ⟨c0_0, c0_1, c0_2, c0_3, c0_4, c0_5, c0_6, c0_7⟩ := (hS.1).p8; have g1' := cell_nw hS.2 g1; have g2' := cell_nw hS.2 g2; have g3' := cell_nw hS.2 g3; have r2' := cell_nw hS.2 r2; have r3' := cell_nw hS.2 r3; clear hS; go_simp; try with_reducible rfl); try simp only [ptl]
       refine tz 4 24 hHeld ?_; try simp only [ptl]
       refine tz 5 25 hHeld ?_; try simp only [ptl]
       refine tz 6 26 hHeld ?_; try simp only [ptl]
       refine tl 7 27 hHeld rfl ?_ (by intro W hS; obtain ⟨c0_0, c0_1, c0_2, c0_3, c0_4, c0_5, c0_6, c0_7⟩ := (hS.1).p8; have g1' := cell_nw hS.2 g1; have g2' := cell_nw hS.2 g2; have g3' := cell_nw hS.2 g3; have r2' := cell_nw hS.2 r2; have r3' := cell_nw hS.2 r3; clear hS; go_simp; try with_reducible rfl); try simp only [ptl]
       refine tz 8 28 hHeld ?_; try simp only [ptl]
       refine tz 9 29 hHeld ?_; try simp only [ptl]
       refine tu (i := 10) (oi := ⟨some 30, _, _, _, _, _⟩) rfl hHeld ?_; try simp only [ptl]
       refine tu (i := 11) (oi := ⟨some 31, _, _, _, _, _⟩) rfl hHeld ?_; try simp only [ptl]
       refine tu (i := 12) (oi := ⟨some 32, _, _, _, _, _⟩) rfl hHeld ?_; try simp only [ptl]
       refine tu (i := 13) (oi := ⟨some 33, _, _, _, _, _⟩) rfl hHeld ?_; try simp only [ptl]
       refine tu (i := 14) (oi := ⟨some 34, _, _, _, _, _⟩) rfl hHeld ?_; try simp only [ptl]
       refine tu (i := 15) (oi := ⟨some 35, _, _, _, _, _⟩) rfl hHeld ?_; try simp only [ptl]
       refine tu (i := 16) (oi := ⟨some 36, _, _, _, _, _⟩) rfl hHeld ?_; try simp only [ptl]
       refine tu (i := 17) (oi := ⟨some 37, _, _, _, _, _⟩) rfl hHeld ?_; try simp only [ptl]
       refine tu (i := 18) (oi := ⟨some 38, _, _, _, _, _⟩) rfl hHeld ?_; try simp only [ptl]
       refine tu (i := 19) (oi := ⟨some 39, _, _, _, _, _⟩) rfl hHeld ?_; try simp only [ptl]
       refine tu (i := 20) (oi := ⟨some 40, _, _, _, _, _⟩) rfl hHeld ?_; try simp only [ptl]
       refine tu (i := 21) (oi := ⟨some 41, _, _, _, _, _⟩) rfl hHeld ?_; try simp only [ptl]
       refine tu (i := 22) (oi := ⟨some 42, _, _, _, _, _⟩) rfl hHeld ?_; try simp only [ptl]
       refine tz 23 43 hHeld ?_; try simp only [ptl]
       refine tz 24 44 hHeld ?_; try simp only [ptl]
       refine tz 25 4 hHeld ?_; try simp only [ptl]
       refine wpAnyH_done (by kernel_rfl) ?_ _
       have KP1 := Lib.hid hHeld.1
       have HB1 := Lib.hid (below_trans HB.out hHeld.2 (Nat.le_refl _))
       clear hHeld g1 g2 g3 r2 r3 KP HB
       go_wp2_with fail
       go_roundg (n3 - (j + 1))
       case measure => omega
       case rel => exact ⟨j + 1, false, by omega, by omega, rfl, by go_num, HSt, KP1, HB1⟩
      | true =>
       have HSt := Lib.hid (show (l3.take (j + 1)).any (mNetG r) = q by rw [HSn.out, HM.out, h3]; rfl)
       have p3 := KP.out.at_ (j := 3) rfl
       go_upto_region 8 with fail
       clear p3
       refine wp_region_held_drew (S := fun w' => BoxAt w' w.heap.size 35 #[.int .i64 p0, .int .i64 p1, .int .i64 p2, .slice (some ⟨bg, og, none⟩) n3 c3, .slice A4 n4 c4, .slice (some ⟨br, or_, none⟩) n5 c5, .slice A6 n6 c6, .int .i64 p7] ∧ Below wr.heap.size wr w') (by kernel_rfl) ?_ (fun hHeld => ?_)
       ·
        exact ⟨KP.out.drw, (Below.refl _ _).drew⟩
       generalize (World.drew _) = x0 at hHeld ⊢
       refine tz 0 20 hHeld ?_; try simp only [ptl]
       refine tz 1 21 hHeld ?_; try simp only [ptl]
       refine tz 2 22 hHeld ?_; try simp only [ptl]
       refine tl 3 23 hHeld rfl ?_ (by intro W hS; obtain ⟨c0_0, c0_1, c0_2, c0_3, c0_4, c0_5, c0_6, c0_7⟩ := (hS.1).p8; have g1' := cell_nw hS.2 g1; have g2' := cell_nw hS.2 g2; have g3' := cell_nw hS.2 g3; have r2' := cell_nw hS.2 r2; have r3' := cell_nw hS.2 r3; clear hS; go_simp; try with_reducible rfl); try simp only [ptl]
       refine tz 4 24 hHeld ?_; try simp only [ptl]
       refine tz 5 25 hHeld ?_; try simp only [ptl]
       refine tz 6 26 hHeld ?_; try simp only [ptl]
       refine tl 7 27 hHeld rfl ?_ (by intro W hS; obtain ⟨c0_0, c0_1, c0_2, c0_3, c0_4, c0_5, c0_6, c0_7⟩ := (hS.1).p8; have g1' := cell_nw hS.2 g1; have g2' := cell_nw hS.2 g2; have g3' := cell_nw hS.2 g3; have r2' := cell_nw hS.2 r2; have r3' := cell_nw hS.2 r3; clear hS; go_simp; try with_reducible rfl); try simp only [ptl]
       refine tz 8 28 hHeld ?_; try simp only [ptl]
       refine tz 9 29 hHeld ?_; try simp only [ptl]
       refine tz 10 30 hHeld ?_; try simp only [ptl]
       refine tl 11 31 hHeld rfl ?_ (by intro W hS; obtain ⟨c0_0, c0_1, c0_2, c0_3, c0_4, c0_5, c0_6, c0_7⟩ := (hS.1).p8; have g1' := cell_nw hS.2 g1; have g2' := cell_nw hS.2 g2; have g3' := cell_nw hS.2 g3; have r2' := cell_nw hS.2 r2; have r3' := cell_nw hS.2 r3; clear hS; go_simp; try with_reducible rfl); try simp only [ptl]
       refine tz 12 32 hHeld ?_; try simp only [ptl]
       refine tz 13 33 hHeld ?_; try simp only [ptl]
       refine tz 14 34 hHeld ?_; try simp only [ptl]
       refine tl 15 35 hHeld rfl ?_ (by intro W hS; obtain ⟨c0_0, c0_1, c0_2, c0_3, c0_4, c0_5, c0_6, c0_7⟩ := (hS.1).p8; have g1' := cell_nw hS.2 g1; have g2' := cell_nw hS.2 g2; have g3' := cell_nw hS.2 g3; have r2' := cell_nw hS.2 r2; have r3' := cell_nw hS.2 r3; clear hS; go_simp; try with_reducible rfl); try simp only [ptl]
       refine tz 16 36 hHeld ?_; try simp only [ptl]
       refine tl 17 37 hHeld rfl ?_ (by intro W hS; obtain ⟨c0_0, c0_1, c0_2, c0_3, c0_4, c0_5, c0_6, c0_7⟩ := (hS.1).p8; have g1' := cell_nw hS.2 g1; have g2' := cell_nw hS.2 g2; have g3' := cell_nw hS.2 g3; have r2' := cell_nw hS.2 r2; have r3' := cell_nw hS.2 r3; clear hS; go_simp; try with_reducible rfl); try simp only [ptl]
       refine tz 18 38 hHeld ?_; try simp only [ptl]
       refine tz 19 39 hHeld ?_; try simp only [ptl]
       refine tz 20 40 hHeld ?_; try simp only [ptl]
       refine tl 21 41 hHeld rfl ?_ (by intro W hS; obtain ⟨c0_0, c0_1, c0_2, c0_3, c0_4, c0_5, c0_6, c0_7⟩ := (hS.1).p8; have g1' := cell_nw hS.2 g1; have g2' := cell_nw hS.2 g2; have g3' := cell_nw hS.2 g3; have r2' := cell_nw hS.2 r2; have r3' := cell_nw hS.2 r3; clear hS; go_simp; try with_reducible rfl); try simp only [ptl]
       refine rd1 (i := 22) (o := ⟨some 42, _, _, _, _, _⟩) rfl (fun K hK => ?_)
       go_simp
       refine Calls.mono (CN.out _) ?_
       rintro e x1 ⟨rfl, hb1⟩
       refine hK.out _ _ ⟨hHeld.1.new hb1, below_trans hHeld.2 hb1 (Nat.le_refl _)⟩ (fun hHeld' => ?_)
       clear hK K hHeld hb1; have hHeld := hHeld'; clear hHeld'
       try simp only [ptl]
       refine tz 23 43 hHeld ?_; try simp only [ptl]
       refine tz 24 44 hHeld ?_; try simp only [ptl]
       refine tz 25 4 hHeld ?_; try simp only [ptl]
       refine wpAnyH_done (by kernel_rfl) ?_ _
       have KP1 := Lib.hid hHeld.1
       have HB1 := Lib.hid (below_trans HB.out hHeld.2 (Nat.le_refl _))
       clear hHeld g1 g2 g3 r2 r3 KP HB
       go_wp2_with fail
       go_roundg (n3 - (j + 1))
       case measure => omega
       case rel => exact ⟨j + 1, q, by omega, by omega, rfl, by go_num, HSt, KP1, HB1⟩
    ·
     obtain rfl : j = n3 := by omega
     have HSe := Lib.hid (show S = s by rw [← HS.out, ← HSj.out, List.take_of_length_le (by rw [HL3.out]; omega)]; rfl)
     cases s with
     | true =>
      have HF2 := Lib.hid (show (l5.take (k + 1)).all (mReach l3) = true by rw [List.take_add_one, HZr.out, Option.toList_some, List.all_append, HF.out]; simp [HS.out, HSe.out])
      go_wp2_with fail
      go_roundg (n5 - (k + 1))
      case measure => omega
      case rel => exact ⟨k + 1, by omega, by omega, by go_num, HF2, KP, HB⟩
     | false =>
      have HE := Lib.hid (show mRulesIn l3 l5 = false from List.all_eq_false.2 ⟨r, List.mem_of_getElem? HZr.out, by rw [HS.out, HSe.out]; simp⟩)
      go_wp2_with fail
      go_ret
      exact ⟨by rw [HE.out]; rfl, HB.out⟩
  ·
   obtain rfl : k = n5 := by omega
   have HE := Lib.hid (show mRulesIn l3 l5 = true by have h := HF.out; rwa [List.take_of_length_le (by rw [HL5.out]; omega)] at h)
   go_wp2_with fail
   go_ret
   exact ⟨by rw [HE.out]; rfl, HB.out⟩
set_option maxHeartbeats 16000000 in
theorem spec_ReviewPackage (a0 : Int) (p0 p1 p2 : Int) (l3 : List TGrant) (A3 : Option Addr) (n3 c3 lo3 hi3 : Nat) (l4 : List TFlow) (A4 : Option Addr) (n4 c4 lo4 hi4 : Nat) (l5 : List TRule) (A5 : Option Addr) (n5 c5 lo5 hi5 : Nat) (l6 : List TOp) (A6 : Option Addr) (n6 c6 lo6 hi6 : Nat) (p7 : Int) (w : World) (hT : Pow10 w) (wf0 : (Lit.int .i64 a0).wf = true) (h3 : n3 ≤ 1048576) (r3 : Rd w lo3 hi3 7 A3 n3 (cGrant l3)) (k3 : n3 ≤ c3) (b3 : Hid (cGrantOk l3)) (h4 : n4 ≤ 1048576) (r4 : Rd w lo4 hi4 3 A4 n4 (cFlow l4)) (k4 : n4 ≤ c4) (b4 : Hid (cFlowOk l4)) (h5 : n5 ≤ 1048576) (r5 : Rd w lo5 hi5 8 A5 n5 (cRule l5)) (k5 : n5 ≤ c5) (b5 : Hid (cRuleOk l5)) (h6 : n6 ≤ 1048576) (r6 : Rd w lo6 hi6 4 A6 n6 (cOp l6)) (k6 : n6 ≤ c6) (b6 : Hid (cOpOk l6)) :
  Calls Tryz.prog 31 #[.int .i64 a0, .agg #[.int .i64 p0, .int .i64 p1, .int .i64 p2, .slice A3 n3 c3, .slice A4 n4 c4, .slice A5 n5 c5, .slice A6 n6 c6, .int .i64 p7]] w (Says (.int .i64 (mRev a0 p0 p1 p2 l3 l4 l5 l6 p7)) w) := by
 have C1 := Lib.hid (fun W (hb : Below w.heap.size w W) => spec_IsPackage p0 p1 p2 l3 A3 n3 c3 lo3 hi3 l4 A4 n4 c4 lo4 hi4 l5 A5 n5 c5 lo5 hi5 l6 A6 n6 c6 lo6 hi6 p7 W h3 (r3.new hb) k3 b3 h4 (r4.new hb) k4 b4 h5 (r5.new hb) k5 b5 h6 (r6.new hb) k6 b6)
 have C2 := Lib.hid (fun W (hb : Below w.heap.size w W) => spec_IsSealed a0 p0 p1 p2 l3 A3 n3 c3 lo3 hi3 l4 A4 n4 c4 lo4 hi4 l5 A5 n5 c5 lo5 hi5 l6 A6 n6 c6 lo6 hi6 p7 W (pow10_below hT hb) wf0 h3 (r3.new hb) k3 b3 h4 (r4.new hb) k4 b4 h5 (r5.new hb) k5 b5 h6 (r6.new hb) k6 b6)
 have C3 := Lib.hid (fun W (hb : Below w.heap.size w W) => spec_l27Rules p0 p1 p2 l3 A3 n3 c3 lo3 hi3 l4 A4 n4 c4 lo4 hi4 l5 A5 n5 c5 lo5 hi5 l6 A6 n6 c6 lo6 hi6 p7 W h3 (r3.new hb) k3 b3 h4 (r4.new hb) k4 b4 h5 (r5.new hb) k5 b5 h6 (r6.new hb) k6 b6)
 have hl6 : l6.length = n6 := rd_len TOp.len r6 (by decide)
 have hJ1 : (mOwners l6 1).length ≤ 1048576 := Nat.le_trans (mOwners_len l6 1) (by omega)
 have hJ5 : (mOwners l6 5).length ≤ 1048576 := Nat.le_trans (mOwners_len l6 5) (by omega)
 have CO4 := Lib.hid (fun W (hb : Below w.heap.size w W) => spec_OwnersRead l6 A6 n6 c6 lo6 hi6 W h6 (r6.new hb) k6 b6)
 have CO5 := Lib.hid (fun W (hb : Below w.heap.size w W) => spec_OwnersSent l6 A6 n6 c6 lo6 hi6 W h6 (r6.new hb) k6 b6)
 have CA4 := Lib.hid (fun W (hb : Below w.heap.size w W) (AJ : Option Addr) (cJ loJ hiJ : Nat) (hr : Rd W loJ hiJ 1 AJ (mOwners l6 1).length (i64s (mOwners l6 1))) => spec_l27All l3 A3 n3 c3 lo3 hi3 1 (mOwners l6 1) AJ (mOwners l6 1).length cJ loJ hiJ W h3 (r3.new hb) b3 (by decide) hJ1 hr (Lib.hid (owners_i64 1 b6.out)))
 have CA5 := Lib.hid (fun W (hb : Below w.heap.size w W) (AJ : Option Addr) (cJ loJ hiJ : Nat) (hr : Rd W loJ hiJ 1 AJ (mOwners l6 5).length (i64s (mOwners l6 5))) => spec_l27All l3 A3 n3 c3 lo3 hi3 3 (mOwners l6 5) AJ (mOwners l6 5).length cJ loJ hiJ W h3 (r3.new hb) b3 (by decide) hJ5 hr (Lib.hid (owners_i64 5 b6.out)))
 have C6 := Lib.hid (fun W (hb : Below w.heap.size w W) (we : (Lit.int .i64 p0).wf = true) => spec_IsTightFor l6 A6 n6 c6 lo6 hi6 l4 A4 n4 c4 lo4 hi4 p0 W h6 (r6.new hb) k6 b6 h4 (r4.new hb) k4 b4 we)
 have HW := Lib.hid (show mIsPack p0 p1 p2 l3 l4 l5 l6 = true → (Lit.int .i64 p0).wf = true from fun h => by
  simp only [mIsPack, Bool.and_eq_true] at h
  have := inR_true.1 h.1.1.1.1.1.1
  exact WalkArith.wf_i64 (by omega))
 have HR := Lib.hid (show mRev a0 p0 p1 p2 l3 l4 l5 l6 p7 = (if mIsPack p0 p1 p2 l3 l4 l5 l6 = false then 1 else if mIsSealed a0 p0 p1 p2 l3 l4 l5 l6 p7 = false then 2 else if mRulesIn l3 l5 = false then 3 else if ((mOwners l6 1).all fun o => mHG l3 1 o) = false then 4 else if ((mOwners l6 5).all fun o => mHG l3 3 o) = false then 5 else if mTight l6 l4 p0 = false then 6 else 0) from rfl)
 generalize mRev a0 p0 p1 p2 l3 l4 l5 l6 p7 = R at HR ⊢
 generalize mIsPack p0 p1 p2 l3 l4 l5 l6 = q1 at C1 HW HR
 generalize mIsSealed a0 p0 p1 p2 l3 l4 l5 l6 p7 = q2 at C2 HR
 generalize mRulesIn l3 l5 = q3 at C3 HR
 generalize ((mOwners l6 1).all fun o => mHG l3 1 o) = q4 at CA4 HR
 generalize ((mOwners l6 5).all fun o => mHG l3 3 o) = q5 at CA5 HR
 generalize mTight l6 l4 p0 = q6 at C6 HR
 generalize mOwners l6 1 = J1 at CO4 CA4 hJ1
 generalize mOwners l6 5 = J5 at CO5 CA5 hJ5
 clear r3 r4 r5 r6 hT wf0 hl6 hJ1 hJ5
 have KP := Lib.hid (box_new w 35 #[.int .i64 p0, .int .i64 p1, .int .i64 p2, .slice A3 n3 c3, .slice A4 n4 c4, .slice A5 n5 c5, .slice A6 n6 c6, .int .i64 p7])
 have HB := Lib.hid ((Below.refl w.heap.size w).alloc (Nat.le_refl _) (.cells #[.int .i64 p0, .int .i64 p1, .int .i64 p2, .slice A3 n3 c3, .slice A4 n4 c4, .slice A5 n5 c5, .slice A6 n6 c6, .int .i64 p7] 35))
 go_enter Tryz.func31, Tryz.ntmps31
 go_wp2_with fail
 refine (C1.out _ HB.out).mono ?_
 rintro e w1 ⟨rfl, hb⟩
 replace KP := Lib.hid (KP.out.new hb)
 replace HB := Lib.hid (below_trans HB.out hb (Nat.le_refl _))
 clear hb
 cases q1 with
 | false =>
  have HE := Lib.hid (show R = 1 by rw [HR.out]; simp [])
  go_wp2_with fail
  go_ret
  exact ⟨by rw [HE.out]; rfl, HB.out⟩
 | true =>
  obtain ⟨k0_, k1_, k2_, k3_, k4_, k5_, k6_, k7_⟩ := KP.out.p8
  go_wp2_with fail
  clear k0_ k1_ k2_ k3_ k4_ k5_ k6_ k7_
  refine (C2.out _ HB.out).mono ?_
  rintro e w2 ⟨rfl, hb⟩
  replace KP := Lib.hid (KP.out.new hb)
  replace HB := Lib.hid (below_trans HB.out hb (Nat.le_refl _))
  clear hb
  cases q2 with
  | false =>
   have HE := Lib.hid (show R = 2 by rw [HR.out]; simp [])
   go_wp2_with fail
   go_ret
   exact ⟨by rw [HE.out]; rfl, HB.out⟩
  | true =>
   obtain ⟨k0_, k1_, k2_, k3_, k4_, k5_, k6_, k7_⟩ := KP.out.p8
   go_wp2_with fail
   clear k0_ k1_ k2_ k3_ k4_ k5_ k6_ k7_
   refine (C3.out _ HB.out).mono ?_
   rintro e w3 ⟨rfl, hb⟩
   replace KP := Lib.hid (KP.out.new hb)
   replace HB := Lib.hid (below_trans HB.out hb (Nat.le_refl _))
   clear hb
   cases q3 with
   | false =>
    have HE := Lib.hid (show R = 3 by rw [HR.out]; simp [])
    go_wp2_with fail
    go_ret
    exact ⟨by rw [HE.out]; rfl, HB.out⟩
   | true =>
    obtain ⟨k0_, k1_, k2_, k3_, k4_, k5_, k6_, k7_⟩ := KP.out.p8
    go_wp2_with fail
    clear k0_ k1_ k2_ k3_ k4_ k5_ k6_ k7_
    refine wp_region_held_drew (S := fun w' => BoxAt w' w.heap.size 35 #[.int .i64 p0, .int .i64 p1, .int .i64 p2, .slice A3 n3 c3, .slice A4 n4 c4, .slice A5 n5 c5, .slice A6 n6 c6, .int .i64 p7] ∧ Below w.heap.size w w') (by kernel_rfl) ?_ (fun hHeld => ?_)
    ·
     exact ⟨KP.out.drw, HB.out.drew⟩
    refine tz 0 19 hHeld ?_; try simp only [ptl]
    refine tl 1 20 hHeld rfl ?_ (by intro W hS; obtain ⟨c0_0, c0_1, c0_2, c0_3, c0_4, c0_5, c0_6, c0_7⟩ := (hS.1).p8; clear hS; go_simp; try with_reducible rfl); try simp only [ptl]
    refine tz 2 21 hHeld ?_; try simp only [ptl]
    refine tl 3 22 hHeld rfl ?_ (by intro W hS; obtain ⟨c0_0, c0_1, c0_2, c0_3, c0_4, c0_5, c0_6, c0_7⟩ := (hS.1).p8; clear hS; go_simp; try with_reducible rfl); try simp only [ptl]
    refine rd1 (i := 4) (o := ⟨some 23, _, _, _, _, _⟩) rfl (fun K hK => ?_)
    go_simp
    refine Calls.mono (CO4.out _ hHeld.2) ?_
    rintro e x1 ⟨AJ, cJ, rfl, GF, hb1⟩
    refine hK.out _ _ ⟨hHeld.1.new hb1, below_trans hHeld.2 hb1 (Nat.le_refl _)⟩ (fun hHeld' => ?_)
    clear hK K hHeld hb1; have hHeld := hHeld'; clear hHeld'
    try simp only [ptl]
    refine rd1 (i := 5) (o := ⟨some 24, _, _, _, _, _⟩) rfl (fun K hK => ?_)
    go_simp
    refine Calls.mono (CA4.out _ hHeld.2 _ _ _ _ GF.rd) ?_
    rintro e x2 ⟨rfl, hb1⟩
    replace GF := GF.new hb1
    refine hK.out _ _ ⟨hHeld.1.new hb1, below_trans hHeld.2 hb1 (Nat.le_refl _)⟩ (fun hHeld' => ?_)
    clear hK K hHeld hb1; have hHeld := hHeld'; clear hHeld'
    try simp only [ptl]
    cases q4
    ·
     refine tz 6 25 hHeld ?_; try simp only [ptl]
     refine tz 7 18 hHeld ?_; try simp only [ptl]
     refine wpAnyH_done (by kernel_rfl) ?_ _
     replace KP := Lib.hid hHeld.1
     replace HB := Lib.hid hHeld.2
     clear hHeld GF
     have HE := Lib.hid (show R = 4 by rw [HR.out]; simp [])
     go_wp2_with fail
     go_ret
     exact ⟨by rw [HE.out]; rfl, HB.out⟩
    ·
     refine tz 6 25 hHeld ?_; try simp only [ptl]
     refine tz 7 18 hHeld ?_; try simp only [ptl]
     refine wpAnyH_done (by kernel_rfl) ?_ _
     replace KP := Lib.hid hHeld.1
     replace HB := Lib.hid hHeld.2
     clear hHeld GF
     obtain ⟨k0_, k1_, k2_, k3_, k4_, k5_, k6_, k7_⟩ := KP.out.p8
     go_wp2_with fail
     clear k0_ k1_ k2_ k3_ k4_ k5_ k6_ k7_
     refine wp_region_held_drew (S := fun w' => BoxAt w' w.heap.size 35 #[.int .i64 p0, .int .i64 p1, .int .i64 p2, .slice A3 n3 c3, .slice A4 n4 c4, .slice A5 n5 c5, .slice A6 n6 c6, .int .i64 p7] ∧ Below w.heap.size w w') (by kernel_rfl) ?_ (fun hHeld => ?_)
     ·
      exact ⟨KP.out.drw, HB.out.drew⟩
     refine tz 0 27 hHeld ?_; try simp only [ptl]
     refine tl 1 28 hHeld rfl ?_ (by intro W hS; obtain ⟨c0_0, c0_1, c0_2, c0_3, c0_4, c0_5, c0_6, c0_7⟩ := (hS.1).p8; clear hS; go_simp; try with_reducible rfl); try simp only [ptl]
     refine tz 2 29 hHeld ?_; try simp only [ptl]
     refine tl 3 30 hHeld rfl ?_ (by intro W hS; obtain ⟨c0_0, c0_1, c0_2, c0_3, c0_4, c0_5, c0_6, c0_7⟩ := (hS.1).p8; clear hS; go_simp; try with_reducible rfl); try simp only [ptl]
     refine rd1 (i := 4) (o := ⟨some 31, _, _, _, _, _⟩) rfl (fun K hK => ?_)
     go_simp
     refine Calls.mono (CO5.out _ hHeld.2) ?_
     rintro e x1 ⟨AJ, cJ, rfl, GF, hb1⟩
     refine hK.out _ _ ⟨hHeld.1.new hb1, below_trans hHeld.2 hb1 (Nat.le_refl _)⟩ (fun hHeld' => ?_)
     clear hK K hHeld hb1; have hHeld := hHeld'; clear hHeld'
     try simp only [ptl]
     refine rd1 (i := 5) (o := ⟨some 32, _, _, _, _, _⟩) rfl (fun K hK => ?_)
     go_simp
     refine Calls.mono (CA5.out _ hHeld.2 _ _ _ _ GF.rd) ?_
     rintro e x2 ⟨rfl, hb1⟩
     replace GF := GF.new hb1
     refine hK.out _ _ ⟨hHeld.1.new hb1, below_trans hHeld.2 hb1 (Nat.le_refl _)⟩ (fun hHeld' => ?_)
     clear hK K hHeld hb1; have hHeld := hHeld'; clear hHeld'
     try simp only [ptl]
     cases q5
     ·
      refine tz 6 33 hHeld ?_; try simp only [ptl]
      refine tz 7 26 hHeld ?_; try simp only [ptl]
      refine wpAnyH_done (by kernel_rfl) ?_ _
      replace KP := Lib.hid hHeld.1
      replace HB := Lib.hid hHeld.2
      clear hHeld GF
      have HE := Lib.hid (show R = 5 by rw [HR.out]; simp [])
      go_wp2_with fail
      go_ret
      exact ⟨by rw [HE.out]; rfl, HB.out⟩
     ·
      refine tz 6 33 hHeld ?_; try simp only [ptl]
      refine tz 7 26 hHeld ?_; try simp only [ptl]
      refine wpAnyH_done (by kernel_rfl) ?_ _
      replace KP := Lib.hid hHeld.1
      replace HB := Lib.hid hHeld.2
      clear hHeld GF
      obtain ⟨k0_, k1_, k2_, k3_, k4_, k5_, k6_, k7_⟩ := KP.out.p8
      go_wp2_with fail
      clear k0_ k1_ k2_ k3_ k4_ k5_ k6_ k7_
      refine (C6.out _ HB.out (HW.out trivial)).mono ?_
      rintro e w6 ⟨rfl, hb⟩
      replace KP := Lib.hid (KP.out.new hb)
      replace HB := Lib.hid (below_trans HB.out hb (Nat.le_refl _))
      clear hb
      cases q6 with
      | false =>
       have HE := Lib.hid (show R = 6 by rw [HR.out]; simp [])
       go_wp2_with fail
       go_ret
       exact ⟨by rw [HE.out]; rfl, HB.out⟩
      | true =>
       have HE := Lib.hid (show R = 0 by rw [HR.out]; simp [])
       go_wp2_with fail
       go_ret
       exact ⟨by rw [HE.out]; rfl, HB.out⟩
end Go.Proofs.YtkedacmpmancbaaGreatDoor
