/- PackageInts of the program. No condition but the length. -/
import Derived.Test.YtmelfgimhilhbaaGreatDoorPkA
namespace Go.Proofs.YtmelfgimhilhbaaGreatDoor
open Go Go.ChangeShapes Go.WideShapes Go.ChangeAt Go.RowKit Go.Lib
set_option linter.unusedVariables false
set_option linter.unusedSimpArgs false
set_option maxRecDepth 100000
def mParts (p0 p1 p2 : Int) (l3 : List TGrant) (l4 : List TFlow) (l5 : List TRule) (l6 : List TOp) : Nat → List Int
  | 0 => [p0, p1, p2]
  | 1 => cnt iG l3
  | 2 => cnt iF l4
  | 3 => cnt iR l5
  | _ => cnt iO l6
def mAll (p0 p1 p2 : Int) (l3 : List TGrant) (l4 : List TFlow) (l5 : List TRule) (l6 : List TOp) : List Int := [p0, p1, p2] ++ cnt iG l3 ++ cnt iF l4 ++ cnt iR l5 ++ cnt iO l6
def mPInts (p0 p1 p2 : Int) (l3 : List TGrant) (l4 : List TFlow) (l5 : List TRule) (l6 : List TOp) : List Int := if mIsPack p0 p1 p2 l3 l4 l5 l6 = true then mAll p0 p1 p2 l3 l4 l5 l6 else []
theorem mAll_len (p0 p1 p2 : Int) (l3 : List TGrant) (l4 : List TFlow) (l5 : List TRule) (l6 : List TOp) : (mAll p0 p1 p2 l3 l4 l5 l6).length = 7 + l3.length * 6 + l4.length * 2 + l5.length * 7 + l6.length * 4 := by
  unfold mAll cnt
  simp only [List.length_append, List.length_cons, List.length_nil, flatG_len, flatF_len, flatR_len, flatO_len]
  omega
theorem mPInts_len (p0 p1 p2 : Int) (l3 : List TGrant) (l4 : List TFlow) (l5 : List TRule) (l6 : List TOp) : (mPInts p0 p1 p2 l3 l4 l5 l6).length ≤ 7 + l3.length * 6 + l4.length * 2 + l5.length * 7 + l6.length * 4 := by
  unfold mPInts
  split
  · rw [mAll_len]; omega
  · simp
set_option maxHeartbeats 4000000 in
theorem part_0 (p0 p1 p2 : Int) (l3 : List TGrant) (A3 : Option Addr) (n3 c3 lo3 hi3 : Nat) (l4 : List TFlow) (A4 : Option Addr) (n4 c4 lo4 hi4 : Nat) (l5 : List TRule) (A5 : Option Addr) (n5 c5 lo5 hi5 : Nat) (l6 : List TOp) (A6 : Option Addr) (n6 c6 lo6 hi6 : Nat) (p7 : Int) (w : World) (h3 : n3 ≤ 1048576) (r3 : Rd w lo3 hi3 7 A3 n3 (cGrant l3)) (h4 : n4 ≤ 1048576) (r4 : Rd w lo4 hi4 3 A4 n4 (cFlow l4)) (h5 : n5 ≤ 1048576) (r5 : Rd w lo5 hi5 8 A5 n5 (cRule l5)) (h6 : n6 ≤ 1048576) (r6 : Rd w lo6 hi6 4 A6 n6 (cOp l6)) :
    Calls Tryz.prog 95 #[.agg #[.int .i64 p0, .int .i64 p1, .int .i64 p2, .slice A3 n3 c3, .slice A4 n4 c4, .slice A5 n5 c5, .slice A6 n6 c6, .int .i64 p7], .int .i64 0] w (Makes 3 1 3 (i64s [p0, p1, p2]) w) := by
  have HO : Hid (((w.alloc (.cells #[.int .i64 p0, .int .i64 p1, .int .i64 p2, .slice A3 n3 c3, .slice A4 n4 c4, .slice A5 n5 c5, .slice A6 n6 c6, .int .i64 p7] 39)).alloc (.cells #[.int .i64 p0, .int .i64 p1, .int .i64 p2] 3)).ownsRow w.heap.size 3 1 (.slice (some ⟨w.heap.size + 1, 0, none⟩) 3 3) 3 (#[.int .i64 p0, .int .i64 p1, .int .i64 p2] : Array Value).toList) := Lib.hid (by simpa using World.ownsRow_lit (base := w.heap.size) (e := 3) (size := 1) (w.alloc (.cells #[.int .i64 p0, .int .i64 p1, .int .i64 p2, .slice A3 n3 c3, .slice A4 n4 c4, .slice A5 n5 c5, .slice A6 n6 c6, .int .i64 p7] 39)) #[.int .i64 p0, .int .i64 p1, .int .i64 p2] 3 (by simp) (by unfold maxLen; omega) rfl)
  clear r3 r4 r5 r6
  go_enter Tryz.func95, Tryz.ntmps95
  go_wp2_with fail
  go_ret
  exact makes_of_own HO.out (((Below.refl _ _).alloc (Nat.le_refl _) _).alloc (by simp) _)
set_option maxHeartbeats 4000000 in
theorem part_1 (p0 p1 p2 : Int) (l3 : List TGrant) (A3 : Option Addr) (n3 c3 lo3 hi3 : Nat) (l4 : List TFlow) (A4 : Option Addr) (n4 c4 lo4 hi4 : Nat) (l5 : List TRule) (A5 : Option Addr) (n5 c5 lo5 hi5 : Nat) (l6 : List TOp) (A6 : Option Addr) (n6 c6 lo6 hi6 : Nat) (p7 : Int) (w : World) (h3 : n3 ≤ 1048576) (r3 : Rd w lo3 hi3 7 A3 n3 (cGrant l3)) (h4 : n4 ≤ 1048576) (r4 : Rd w lo4 hi4 3 A4 n4 (cFlow l4)) (h5 : n5 ≤ 1048576) (r5 : Rd w lo5 hi5 8 A5 n5 (cRule l5)) (h6 : n6 ≤ 1048576) (r6 : Rd w lo6 hi6 4 A6 n6 (cOp l6)) :
    Calls Tryz.prog 95 #[.agg #[.int .i64 p0, .int .i64 p1, .int .i64 p2, .slice A3 n3 c3, .slice A4 n4 c4, .slice A5 n5 c5, .slice A6 n6 c6, .int .i64 p7], .int .i64 1] w (Makes 3 1 (cnt iG l3).length (i64s (cnt iG l3)) w) := by
  have HB0 := Lib.hid ((Below.refl w.heap.size w).alloc (Nat.le_refl _) (.cells #[.int .i64 p0, .int .i64 p1, .int .i64 p2, .slice A3 n3 c3, .slice A4 n4 c4, .slice A5 n5 c5, .slice A6 n6 c6, .int .i64 p7] 39))
  have CC := Lib.hid (counted_Grant l3 A3 n3 c3 lo3 hi3 (w.alloc (.cells #[.int .i64 p0, .int .i64 p1, .int .i64 p2, .slice A3 n3 c3, .slice A4 n4 c4, .slice A5 n5 c5, .slice A6 n6 c6, .int .i64 p7] 39)) h3 (r3.alloc _))
  generalize cnt iG l3 = X at CC ⊢
  generalize X.length = nn at CC ⊢
  clear r3 r4 r5 r6
  go_enter Tryz.func95, Tryz.ntmps95
  go_wp2_with fail
  refine CC.out.mono ?_
  rintro e w1 ⟨A', c', rfl, hF, hb⟩
  have HF := Lib.hid (hF.mono (lo' := w.heap.size) (by simp) (Nat.le_refl _))
  have HB := Lib.hid (below_trans HB0.out hb (by simp))
  clear hF hb CC
  go_wp2_with fail
  go_ret
  exact ⟨A', c', rfl, HF.out, HB.out⟩
set_option maxHeartbeats 4000000 in
theorem part_2 (p0 p1 p2 : Int) (l3 : List TGrant) (A3 : Option Addr) (n3 c3 lo3 hi3 : Nat) (l4 : List TFlow) (A4 : Option Addr) (n4 c4 lo4 hi4 : Nat) (l5 : List TRule) (A5 : Option Addr) (n5 c5 lo5 hi5 : Nat) (l6 : List TOp) (A6 : Option Addr) (n6 c6 lo6 hi6 : Nat) (p7 : Int) (w : World) (h3 : n3 ≤ 1048576) (r3 : Rd w lo3 hi3 7 A3 n3 (cGrant l3)) (h4 : n4 ≤ 1048576) (r4 : Rd w lo4 hi4 3 A4 n4 (cFlow l4)) (h5 : n5 ≤ 1048576) (r5 : Rd w lo5 hi5 8 A5 n5 (cRule l5)) (h6 : n6 ≤ 1048576) (r6 : Rd w lo6 hi6 4 A6 n6 (cOp l6)) :
    Calls Tryz.prog 95 #[.agg #[.int .i64 p0, .int .i64 p1, .int .i64 p2, .slice A3 n3 c3, .slice A4 n4 c4, .slice A5 n5 c5, .slice A6 n6 c6, .int .i64 p7], .int .i64 2] w (Makes 3 1 (cnt iF l4).length (i64s (cnt iF l4)) w) := by
  have HB0 := Lib.hid ((Below.refl w.heap.size w).alloc (Nat.le_refl _) (.cells #[.int .i64 p0, .int .i64 p1, .int .i64 p2, .slice A3 n3 c3, .slice A4 n4 c4, .slice A5 n5 c5, .slice A6 n6 c6, .int .i64 p7] 39))
  have CC := Lib.hid (counted_Flow l4 A4 n4 c4 lo4 hi4 (w.alloc (.cells #[.int .i64 p0, .int .i64 p1, .int .i64 p2, .slice A3 n3 c3, .slice A4 n4 c4, .slice A5 n5 c5, .slice A6 n6 c6, .int .i64 p7] 39)) h4 (r4.alloc _))
  generalize cnt iF l4 = X at CC ⊢
  generalize X.length = nn at CC ⊢
  clear r3 r4 r5 r6
  go_enter Tryz.func95, Tryz.ntmps95
  go_wp2_with fail
  refine CC.out.mono ?_
  rintro e w1 ⟨A', c', rfl, hF, hb⟩
  have HF := Lib.hid (hF.mono (lo' := w.heap.size) (by simp) (Nat.le_refl _))
  have HB := Lib.hid (below_trans HB0.out hb (by simp))
  clear hF hb CC
  go_wp2_with fail
  go_ret
  exact ⟨A', c', rfl, HF.out, HB.out⟩
set_option maxHeartbeats 4000000 in
theorem part_3 (p0 p1 p2 : Int) (l3 : List TGrant) (A3 : Option Addr) (n3 c3 lo3 hi3 : Nat) (l4 : List TFlow) (A4 : Option Addr) (n4 c4 lo4 hi4 : Nat) (l5 : List TRule) (A5 : Option Addr) (n5 c5 lo5 hi5 : Nat) (l6 : List TOp) (A6 : Option Addr) (n6 c6 lo6 hi6 : Nat) (p7 : Int) (w : World) (h3 : n3 ≤ 1048576) (r3 : Rd w lo3 hi3 7 A3 n3 (cGrant l3)) (h4 : n4 ≤ 1048576) (r4 : Rd w lo4 hi4 3 A4 n4 (cFlow l4)) (h5 : n5 ≤ 1048576) (r5 : Rd w lo5 hi5 8 A5 n5 (cRule l5)) (h6 : n6 ≤ 1048576) (r6 : Rd w lo6 hi6 4 A6 n6 (cOp l6)) :
    Calls Tryz.prog 95 #[.agg #[.int .i64 p0, .int .i64 p1, .int .i64 p2, .slice A3 n3 c3, .slice A4 n4 c4, .slice A5 n5 c5, .slice A6 n6 c6, .int .i64 p7], .int .i64 3] w (Makes 3 1 (cnt iR l5).length (i64s (cnt iR l5)) w) := by
  have HB0 := Lib.hid ((Below.refl w.heap.size w).alloc (Nat.le_refl _) (.cells #[.int .i64 p0, .int .i64 p1, .int .i64 p2, .slice A3 n3 c3, .slice A4 n4 c4, .slice A5 n5 c5, .slice A6 n6 c6, .int .i64 p7] 39))
  have CC := Lib.hid (counted_Rule l5 A5 n5 c5 lo5 hi5 (w.alloc (.cells #[.int .i64 p0, .int .i64 p1, .int .i64 p2, .slice A3 n3 c3, .slice A4 n4 c4, .slice A5 n5 c5, .slice A6 n6 c6, .int .i64 p7] 39)) h5 (r5.alloc _))
  generalize cnt iR l5 = X at CC ⊢
  generalize X.length = nn at CC ⊢
  clear r3 r4 r5 r6
  go_enter Tryz.func95, Tryz.ntmps95
  go_wp2_with fail
  refine CC.out.mono ?_
  rintro e w1 ⟨A', c', rfl, hF, hb⟩
  have HF := Lib.hid (hF.mono (lo' := w.heap.size) (by simp) (Nat.le_refl _))
  have HB := Lib.hid (below_trans HB0.out hb (by simp))
  clear hF hb CC
  go_wp2_with fail
  go_ret
  exact ⟨A', c', rfl, HF.out, HB.out⟩
set_option maxHeartbeats 4000000 in
theorem part_4 (p0 p1 p2 : Int) (l3 : List TGrant) (A3 : Option Addr) (n3 c3 lo3 hi3 : Nat) (l4 : List TFlow) (A4 : Option Addr) (n4 c4 lo4 hi4 : Nat) (l5 : List TRule) (A5 : Option Addr) (n5 c5 lo5 hi5 : Nat) (l6 : List TOp) (A6 : Option Addr) (n6 c6 lo6 hi6 : Nat) (p7 : Int) (w : World) (h3 : n3 ≤ 1048576) (r3 : Rd w lo3 hi3 7 A3 n3 (cGrant l3)) (h4 : n4 ≤ 1048576) (r4 : Rd w lo4 hi4 3 A4 n4 (cFlow l4)) (h5 : n5 ≤ 1048576) (r5 : Rd w lo5 hi5 8 A5 n5 (cRule l5)) (h6 : n6 ≤ 1048576) (r6 : Rd w lo6 hi6 4 A6 n6 (cOp l6)) :
    Calls Tryz.prog 95 #[.agg #[.int .i64 p0, .int .i64 p1, .int .i64 p2, .slice A3 n3 c3, .slice A4 n4 c4, .slice A5 n5 c5, .slice A6 n6 c6, .int .i64 p7], .int .i64 4] w (Makes 3 1 (cnt iO l6).length (i64s (cnt iO l6)) w) := by
  have HB0 := Lib.hid ((Below.refl w.heap.size w).alloc (Nat.le_refl _) (.cells #[.int .i64 p0, .int .i64 p1, .int .i64 p2, .slice A3 n3 c3, .slice A4 n4 c4, .slice A5 n5 c5, .slice A6 n6 c6, .int .i64 p7] 39))
  have CC := Lib.hid (counted_Op l6 A6 n6 c6 lo6 hi6 (w.alloc (.cells #[.int .i64 p0, .int .i64 p1, .int .i64 p2, .slice A3 n3 c3, .slice A4 n4 c4, .slice A5 n5 c5, .slice A6 n6 c6, .int .i64 p7] 39)) h6 (r6.alloc _))
  generalize cnt iO l6 = X at CC ⊢
  generalize X.length = nn at CC ⊢
  clear r3 r4 r5 r6
  go_enter Tryz.func95, Tryz.ntmps95
  go_wp2_with fail
  refine CC.out.mono ?_
  rintro e w1 ⟨A', c', rfl, hF, hb⟩
  have HF := Lib.hid (hF.mono (lo' := w.heap.size) (by simp) (Nat.le_refl _))
  have HB := Lib.hid (below_trans HB0.out hb (by simp))
  clear hF hb CC
  go_wp2_with fail
  go_ret
  exact ⟨A', c', rfl, HF.out, HB.out⟩
theorem pk_newer {w w' : World} {base size n : Nat} {e : TypeId} {v : Value} {xs : List Value} (h : OwnZ w base e size v n xs) (hb : Below w.heap.size w w') : OwnZ w' base e size v n xs := h.imp (fun h => own_newer h hb) id
/-- What is written behind so many parts. -/
def upTo (p0 p1 p2 : Int) (l3 : List TGrant) (l4 : List TFlow) (l5 : List TRule) (l6 : List TOp) : Nat → List Int
  | 0 => []
  | 1 => [] ++ [p0, p1, p2]
  | 2 => [] ++ [p0, p1, p2] ++ cnt iG l3
  | 3 => [] ++ [p0, p1, p2] ++ cnt iG l3 ++ cnt iF l4
  | 4 => [] ++ [p0, p1, p2] ++ cnt iG l3 ++ cnt iF l4 ++ cnt iR l5
  | _ => [] ++ [p0, p1, p2] ++ cnt iG l3 ++ cnt iF l4 ++ cnt iR l5 ++ cnt iO l6
set_option maxHeartbeats 16000000 in
theorem impl_PackageIntsC (p0 p1 p2 : Int) (l3 : List TGrant) (A3 : Option Addr) (n3 c3 lo3 hi3 : Nat) (l4 : List TFlow) (A4 : Option Addr) (n4 c4 lo4 hi4 : Nat) (l5 : List TRule) (A5 : Option Addr) (n5 c5 lo5 hi5 : Nat) (l6 : List TOp) (A6 : Option Addr) (n6 c6 lo6 hi6 : Nat) (p7 : Int) (w : World) (h3 : n3 ≤ 1048576) (r3 : Rd w lo3 hi3 7 A3 n3 (cGrant l3)) (k3 : n3 ≤ c3) (b3 : Hid (cGrantOk l3)) (h4 : n4 ≤ 1048576) (r4 : Rd w lo4 hi4 3 A4 n4 (cFlow l4)) (k4 : n4 ≤ c4) (b4 : Hid (cFlowOk l4)) (h5 : n5 ≤ 1048576) (r5 : Rd w lo5 hi5 8 A5 n5 (cRule l5)) (k5 : n5 ≤ c5) (b5 : Hid (cRuleOk l5)) (h6 : n6 ≤ 1048576) (r6 : Rd w lo6 hi6 4 A6 n6 (cOp l6)) (k6 : n6 ≤ c6) (b6 : Hid (cOpOk l6)) :
    Calls Tryz.prog 45 #[.agg #[.int .i64 p0, .int .i64 p1, .int .i64 p2, .slice A3 n3 c3, .slice A4 n4 c4, .slice A5 n5 c5, .slice A6 n6 c6, .int .i64 p7]] w (Makes 3 1 (mPInts p0 p1 p2 l3 l4 l5 l6).length (i64s (mPInts p0 p1 p2 l3 l4 l5 l6)) w) := by
  have KB0 := Lib.hid ((box_new w 39 #[.int .i64 p0, .int .i64 p1, .int .i64 p2, .slice A3 n3 c3, .slice A4 n4 c4, .slice A5 n5 c5, .slice A6 n6 c6, .int .i64 p7]).alloc_ (.cells #[] 3))
  have HB0 := Lib.hid (((Below.refl w.heap.size w).alloc (Nat.le_refl _) (.cells #[.int .i64 p0, .int .i64 p1, .int .i64 p2, .slice A3 n3 c3, .slice A4 n4 c4, .slice A5 n5 c5, .slice A6 n6 c6, .int .i64 p7] 39)).alloc (by simp) (.cells #[] 3))
  have HO0 : Hid (((w.alloc (.cells #[.int .i64 p0, .int .i64 p1, .int .i64 p2, .slice A3 n3 c3, .slice A4 n4 c4, .slice A5 n5 c5, .slice A6 n6 c6, .int .i64 p7] 39)).alloc (.cells #[] 3)).ownsRow w.heap.size 3 1 (.slice (some ⟨w.heap.size + 1, 0, none⟩) 0 0) 0 (i64s [])) := Lib.hid (by simpa using World.ownsRow_lit (base := w.heap.size) (e := 3) (size := 1) (w.alloc (.cells #[.int .i64 p0, .int .i64 p1, .int .i64 p2, .slice A3 n3 c3, .slice A4 n4 c4, .slice A5 n5 c5, .slice A6 n6 c6, .int .i64 p7] 39)) #[] 0 (by simp) (by unfold maxLen; omega) rfl)
  have CQ := Lib.hid (impl_IsPackageC p0 p1 p2 l3 A3 n3 c3 lo3 hi3 l4 A4 n4 c4 lo4 hi4 l5 A5 n5 c5 lo5 hi5 l6 A6 n6 c6 lo6 hi6 p7 ((w.alloc (.cells #[.int .i64 p0, .int .i64 p1, .int .i64 p2, .slice A3 n3 c3, .slice A4 n4 c4, .slice A5 n5 c5, .slice A6 n6 c6, .int .i64 p7] 39)).alloc (.cells #[] 3)) h3 ((r3.alloc _).alloc _) k3 b3 h4 ((r4.alloc _).alloc _) k4 b4 h5 ((r5.alloc _).alloc _) k5 b5 h6 ((r6.alloc _).alloc _) k6 b6)
  have R3 := Lib.hid (((r3.alloc (.cells #[.int .i64 p0, .int .i64 p1, .int .i64 p2, .slice A3 n3 c3, .slice A4 n4 c4, .slice A5 n5 c5, .slice A6 n6 c6, .int .i64 p7] 39))).alloc (.cells #[] 3))
  have R4 := Lib.hid (((r4.alloc (.cells #[.int .i64 p0, .int .i64 p1, .int .i64 p2, .slice A3 n3 c3, .slice A4 n4 c4, .slice A5 n5 c5, .slice A6 n6 c6, .int .i64 p7] 39))).alloc (.cells #[] 3))
  have R5 := Lib.hid (((r5.alloc (.cells #[.int .i64 p0, .int .i64 p1, .int .i64 p2, .slice A3 n3 c3, .slice A4 n4 c4, .slice A5 n5 c5, .slice A6 n6 c6, .int .i64 p7] 39))).alloc (.cells #[] 3))
  have R6 := Lib.hid (((r6.alloc (.cells #[.int .i64 p0, .int .i64 p1, .int .i64 p2, .slice A3 n3 c3, .slice A4 n4 c4, .slice A5 n5 c5, .slice A6 n6 c6, .int .i64 p7] 39))).alloc (.cells #[] 3))
  clear r3 r4 r5 r6
  cases hq : mIsPack p0 p1 p2 l3 l4 l5 l6 with
  | false =>
    rw [hq] at CQ
    have HE := Lib.hid (show mPInts p0 p1 p2 l3 l4 l5 l6 = [] by unfold mPInts; rw [if_neg (by rw [hq]; decide)])
    clear hq
    go_enter Tryz.func45, Tryz.ntmps45
    go_wp2_with fail
    refine CQ.out.mono ?_
    rintro e w1 ⟨rfl, hb⟩
    have HB1 := Lib.hid (below_trans HB0.out hb (by simp))
    have HO1 := Lib.hid (own_newer HO0.out hb)
    clear hb CQ
    go_wp2_with fail
    go_ret
    rw [HE.out]
    exact makes_of_own HO1.out HB1.out
  | true =>
    rw [hq] at CQ
    have HE := Lib.hid (show mPInts p0 p1 p2 l3 l4 l5 l6 = upTo p0 p1 p2 l3 l4 l5 l6 5 by unfold mPInts; rw [if_pos hq]; rfl)
    have hl3 := rd_len TGrant.len R3.out (by decide)
    obtain ⟨m3, M3⟩ : ∃ m, Hid ((cnt iG l3).length = m) := ⟨_, Lib.hid rfl⟩
    have hm3 : m3 ≤ 1 + 1048576 * 6 := by have h := M3.out; unfold cnt at h; rw [List.length_cons, flatG_len] at h; omega
    have hl4 := rd_len TFlow.len R4.out (by decide)
    obtain ⟨m4, M4⟩ : ∃ m, Hid ((cnt iF l4).length = m) := ⟨_, Lib.hid rfl⟩
    have hm4 : m4 ≤ 1 + 1048576 * 2 := by have h := M4.out; unfold cnt at h; rw [List.length_cons, flatF_len] at h; omega
    have hl5 := rd_len TRule.len R5.out (by decide)
    obtain ⟨m5, M5⟩ : ∃ m, Hid ((cnt iR l5).length = m) := ⟨_, Lib.hid rfl⟩
    have hm5 : m5 ≤ 1 + 1048576 * 7 := by have h := M5.out; unfold cnt at h; rw [List.length_cons, flatR_len] at h; omega
    have hl6 := rd_len TOp.len R6.out (by decide)
    obtain ⟨m6, M6⟩ : ∃ m, Hid ((cnt iO l6).length = m) := ⟨_, Lib.hid rfl⟩
    have hm6 : m6 ≤ 1 + 1048576 * 4 := by have h := M6.out; unfold cnt at h; rw [List.length_cons, flatO_len] at h; omega
    clear hq
    go_enter Tryz.func45, Tryz.ntmps45
    go_wp2_with fail
    refine CQ.out.mono ?_
    rintro e w1 ⟨rfl, hb⟩
    have HB1 := Lib.hid (below_trans HB0.out hb (by simp))
    have KB1 := Lib.hid (KB0.out.new hb)
    have hs1 : w.heap.size + 2 ≤ w1.heap.size := by have := hb.size; simpa using this
    have Q3 := Lib.hid (R3.out.new hb)
    have Q4 := Lib.hid (R4.out.new hb)
    have Q5 := Lib.hid (R5.out.new hb)
    have Q6 := Lib.hid (R6.out.new hb)
    clear hb CQ HO0 KB0 HB0
    go_wp2_with fail
    go_loopg [3, 10] 5 (fun gg v i wr => ∃ (k nn : Nat) (X : List Int), k ≤ 5 ∧ 5 - k ≤ gg ∧ i = .int .i64 k ∧ nn ≤ k * 8000000 ∧ Hid (X = upTo p0 p1 p2 l3 l4 l5 l6 k ∧ nn = X.length) ∧ Hid (OwnZ wr w1.heap.size 3 1 v nn (i64s X)) ∧ Hid (BoxAt wr w.heap.size 39 #[.int .i64 p0, .int .i64 p1, .int .i64 p2, .slice A3 n3 c3, .slice A4 n4 c4, .slice A5 n5 c5, .slice A6 n6 c6, .int .i64 p7]) ∧ Hid (Below w1.heap.size w1 wr))
    case atStart => exact ⟨0, 0, [], by omega, by omega, rfl, by omega, Lib.hid ⟨rfl, rfl⟩, Lib.hid (.inr ⟨rfl, rfl, _, rfl⟩), KB1, Lib.hid (Below.refl _ _)⟩
    case round =>
      clear KB1
      obtain ⟨k, nn, X, hk, hg, rfl, hnn, HX, HO, KB, HB⟩ := hrel
      have k0 := KB.out.at_ (j := 0) rfl
      have k1 := KB.out.at_ (j := 1) rfl
      have k2 := KB.out.at_ (j := 2) rfl
      have k3 := KB.out.at_ (j := 3) rfl
      have k4 := KB.out.at_ (j := 4) rfl
      have k5 := KB.out.at_ (j := 5) rfl
      have k6 := KB.out.at_ (j := 6) rfl
      have k7 := KB.out.at_ (j := 7) rfl
      have hkl := KB.out.lt
      have hk6 : k = 0 ∨ k = 1 ∨ k = 2 ∨ k = 3 ∨ k = 4 ∨ k = 5 := by omega
      rcases hk6 with rfl | rfl | rfl | rfl | rfl | rfl
      · have CP := Lib.hid (part_0 p0 p1 p2 l3 A3 n3 c3 lo3 hi3 l4 A4 n4 c4 lo4 hi4 l5 A5 n5 c5 lo5 hi5 l6 A6 n6 c6 lo6 hi6 p7 wr h3 (Q3.out.new HB.out) h4 (Q4.out.new HB.out) h5 (Q5.out.new HB.out) h6 (Q6.out.new HB.out))
        have HS := Lib.hid HB.out.size
        go_wp2_with fail
        refine CP.out.mono ?_
        rintro e w2 ⟨A2, c2, rfl, hF2, hb2⟩
        have HB2 := Lib.hid (below_trans HB.out hb2 (Nat.le_refl _))
        have KB2 := Lib.hid (KB.out.new hb2)
        have HO2 := Lib.hid (pk_newer HO.out hb2)
        have HF2 := Lib.hid hF2
        have HS2 := Lib.hid HB2.out.size
        clear hb2 hF2 CP k0 k1 k2 k3 k4 k5 k6 k7
        go_wp2_with (at_builtin; refine wp_appz rfl _ _ _ rfl w1.heap.size 3 (.int .i64 0) 1 8 Tryz.underlying72 info_int rfl (by decide) _ _ _ rfl HO2.out _ _ A2 3 c2 (i64s [p0, p1, p2]) rfl (HF2.out.rd) (ints_oneCell _ _) (by unfold maxLen; omega) (by omega) HS2.out ?_; intro v3 w3 ho3 hb3)
        have HO3 := Lib.hid (show OwnZ w3 w1.heap.size 3 1 v3 (nn + 3) (i64s (X ++ [p0, p1, p2])) by rw [i64s_app]; exact ho3)
        have HB3 := Lib.hid (HB2.out.trans hb3)
        have KB3 := Lib.hid ((hb3.block w.heap.size (by have := hs1; omega)).trans KB2.out)
        clear ho3 hb3
        go_wp2_with fail
        go_roundg (5 - (0 + 1))
        case measure => omega
        case rel => exact ⟨0 + 1, nn + 3, X ++ [p0, p1, p2], by omega, by omega, by go_num, by omega, Lib.hid ⟨by rw [HX.out.1]; rfl, by rw [List.length_append, HX.out.2]; rfl⟩, HO3, KB3, HB3⟩
      · have CP := Lib.hid (part_1 p0 p1 p2 l3 A3 n3 c3 lo3 hi3 l4 A4 n4 c4 lo4 hi4 l5 A5 n5 c5 lo5 hi5 l6 A6 n6 c6 lo6 hi6 p7 wr h3 (Q3.out.new HB.out) h4 (Q4.out.new HB.out) h5 (Q5.out.new HB.out) h6 (Q6.out.new HB.out))
        generalize hY : cnt iG l3 = Y at CP
        have HYl := Lib.hid (show Y.length = m3 by rw [← hY]; exact M3.out)
        rw [HYl.out] at CP
        have HY := Lib.hid hY
        clear hY
        have HS := Lib.hid HB.out.size
        go_wp2_with fail
        refine CP.out.mono ?_
        rintro e w2 ⟨A2, c2, rfl, hF2, hb2⟩
        have HB2 := Lib.hid (below_trans HB.out hb2 (Nat.le_refl _))
        have KB2 := Lib.hid (KB.out.new hb2)
        have HO2 := Lib.hid (pk_newer HO.out hb2)
        have HF2 := Lib.hid hF2
        have HS2 := Lib.hid HB2.out.size
        clear hb2 hF2 CP k0 k1 k2 k3 k4 k5 k6 k7
        go_wp2_with (at_builtin; refine wp_appz rfl _ _ _ rfl w1.heap.size 3 (.int .i64 0) 1 8 Tryz.underlying72 info_int rfl (by decide) _ _ _ rfl HO2.out _ _ A2 m3 c2 (i64s Y) rfl (HF2.out.rd) (ints_oneCell _ _) (by unfold maxLen; omega) (by omega) HS2.out ?_; intro v3 w3 ho3 hb3)
        have HO3 := Lib.hid (show OwnZ w3 w1.heap.size 3 1 v3 (nn + m3) (i64s (X ++ Y)) by rw [i64s_app]; exact ho3)
        have HB3 := Lib.hid (HB2.out.trans hb3)
        have KB3 := Lib.hid ((hb3.block w.heap.size (by have := hs1; omega)).trans KB2.out)
        clear ho3 hb3
        go_wp2_with fail
        go_roundg (5 - (1 + 1))
        case measure => omega
        case rel => exact ⟨1 + 1, nn + m3, X ++ Y, by omega, by omega, by go_num, by omega, Lib.hid ⟨by rw [HX.out.1, ← HY.out]; rfl, by rw [List.length_append, HX.out.2]; rw [HYl.out]⟩, HO3, KB3, HB3⟩
      · have CP := Lib.hid (part_2 p0 p1 p2 l3 A3 n3 c3 lo3 hi3 l4 A4 n4 c4 lo4 hi4 l5 A5 n5 c5 lo5 hi5 l6 A6 n6 c6 lo6 hi6 p7 wr h3 (Q3.out.new HB.out) h4 (Q4.out.new HB.out) h5 (Q5.out.new HB.out) h6 (Q6.out.new HB.out))
        generalize hY : cnt iF l4 = Y at CP
        have HYl := Lib.hid (show Y.length = m4 by rw [← hY]; exact M4.out)
        rw [HYl.out] at CP
        have HY := Lib.hid hY
        clear hY
        have HS := Lib.hid HB.out.size
        go_wp2_with fail
        refine CP.out.mono ?_
        rintro e w2 ⟨A2, c2, rfl, hF2, hb2⟩
        have HB2 := Lib.hid (below_trans HB.out hb2 (Nat.le_refl _))
        have KB2 := Lib.hid (KB.out.new hb2)
        have HO2 := Lib.hid (pk_newer HO.out hb2)
        have HF2 := Lib.hid hF2
        have HS2 := Lib.hid HB2.out.size
        clear hb2 hF2 CP k0 k1 k2 k3 k4 k5 k6 k7
        go_wp2_with (at_builtin; refine wp_appz rfl _ _ _ rfl w1.heap.size 3 (.int .i64 0) 1 8 Tryz.underlying72 info_int rfl (by decide) _ _ _ rfl HO2.out _ _ A2 m4 c2 (i64s Y) rfl (HF2.out.rd) (ints_oneCell _ _) (by unfold maxLen; omega) (by omega) HS2.out ?_; intro v3 w3 ho3 hb3)
        have HO3 := Lib.hid (show OwnZ w3 w1.heap.size 3 1 v3 (nn + m4) (i64s (X ++ Y)) by rw [i64s_app]; exact ho3)
        have HB3 := Lib.hid (HB2.out.trans hb3)
        have KB3 := Lib.hid ((hb3.block w.heap.size (by have := hs1; omega)).trans KB2.out)
        clear ho3 hb3
        go_wp2_with fail
        go_roundg (5 - (2 + 1))
        case measure => omega
        case rel => exact ⟨2 + 1, nn + m4, X ++ Y, by omega, by omega, by go_num, by omega, Lib.hid ⟨by rw [HX.out.1, ← HY.out]; rfl, by rw [List.length_append, HX.out.2]; rw [HYl.out]⟩, HO3, KB3, HB3⟩
      · have CP := Lib.hid (part_3 p0 p1 p2 l3 A3 n3 c3 lo3 hi3 l4 A4 n4 c4 lo4 hi4 l5 A5 n5 c5 lo5 hi5 l6 A6 n6 c6 lo6 hi6 p7 wr h3 (Q3.out.new HB.out) h4 (Q4.out.new HB.out) h5 (Q5.out.new HB.out) h6 (Q6.out.new HB.out))
        generalize hY : cnt iR l5 = Y at CP
        have HYl := Lib.hid (show Y.length = m5 by rw [← hY]; exact M5.out)
        rw [HYl.out] at CP
        have HY := Lib.hid hY
        clear hY
        have HS := Lib.hid HB.out.size
        go_wp2_with fail
        refine CP.out.mono ?_
        rintro e w2 ⟨A2, c2, rfl, hF2, hb2⟩
        have HB2 := Lib.hid (below_trans HB.out hb2 (Nat.le_refl _))
        have KB2 := Lib.hid (KB.out.new hb2)
        have HO2 := Lib.hid (pk_newer HO.out hb2)
        have HF2 := Lib.hid hF2
        have HS2 := Lib.hid HB2.out.size
        clear hb2 hF2 CP k0 k1 k2 k3 k4 k5 k6 k7
        go_wp2_with (at_builtin; refine wp_appz rfl _ _ _ rfl w1.heap.size 3 (.int .i64 0) 1 8 Tryz.underlying72 info_int rfl (by decide) _ _ _ rfl HO2.out _ _ A2 m5 c2 (i64s Y) rfl (HF2.out.rd) (ints_oneCell _ _) (by unfold maxLen; omega) (by omega) HS2.out ?_; intro v3 w3 ho3 hb3)
        have HO3 := Lib.hid (show OwnZ w3 w1.heap.size 3 1 v3 (nn + m5) (i64s (X ++ Y)) by rw [i64s_app]; exact ho3)
        have HB3 := Lib.hid (HB2.out.trans hb3)
        have KB3 := Lib.hid ((hb3.block w.heap.size (by have := hs1; omega)).trans KB2.out)
        clear ho3 hb3
        go_wp2_with fail
        go_roundg (5 - (3 + 1))
        case measure => omega
        case rel => exact ⟨3 + 1, nn + m5, X ++ Y, by omega, by omega, by go_num, by omega, Lib.hid ⟨by rw [HX.out.1, ← HY.out]; rfl, by rw [List.length_append, HX.out.2]; rw [HYl.out]⟩, HO3, KB3, HB3⟩
      · have CP := Lib.hid (part_4 p0 p1 p2 l3 A3 n3 c3 lo3 hi3 l4 A4 n4 c4 lo4 hi4 l5 A5 n5 c5 lo5 hi5 l6 A6 n6 c6 lo6 hi6 p7 wr h3 (Q3.out.new HB.out) h4 (Q4.out.new HB.out) h5 (Q5.out.new HB.out) h6 (Q6.out.new HB.out))
        generalize hY : cnt iO l6 = Y at CP
        have HYl := Lib.hid (show Y.length = m6 by rw [← hY]; exact M6.out)
        rw [HYl.out] at CP
        have HY := Lib.hid hY
        clear hY
        have HS := Lib.hid HB.out.size
        go_wp2_with fail
        refine CP.out.mono ?_
        rintro e w2 ⟨A2, c2, rfl, hF2, hb2⟩
        have HB2 := Lib.hid (below_trans HB.out hb2 (Nat.le_refl _))
        have KB2 := Lib.hid (KB.out.new hb2)
        have HO2 := Lib.hid (pk_newer HO.out hb2)
        have HF2 := Lib.hid hF2
        have HS2 := Lib.hid HB2.out.size
        clear hb2 hF2 CP k0 k1 k2 k3 k4 k5 k6 k7
        go_wp2_with (at_builtin; refine wp_appz rfl _ _ _ rfl w1.heap.size 3 (.int .i64 0) 1 8 Tryz.underlying72 info_int rfl (by decide) _ _ _ rfl HO2.out _ _ A2 m6 c2 (i64s Y) rfl (HF2.out.rd) (ints_oneCell _ _) (by unfold maxLen; omega) (by omega) HS2.out ?_; intro v3 w3 ho3 hb3)
        have HO3 := Lib.hid (show OwnZ w3 w1.heap.size 3 1 v3 (nn + m6) (i64s (X ++ Y)) by rw [i64s_app]; exact ho3)
        have HB3 := Lib.hid (HB2.out.trans hb3)
        have KB3 := Lib.hid ((hb3.block w.heap.size (by have := hs1; omega)).trans KB2.out)
        clear ho3 hb3
        go_wp2_with fail
        go_roundg (5 - (4 + 1))
        case measure => omega
        case rel => exact ⟨4 + 1, nn + m6, X ++ Y, by omega, by omega, by go_num, by omega, Lib.hid ⟨by rw [HX.out.1, ← HY.out]; rfl, by rw [List.length_append, HX.out.2]; rw [HYl.out]⟩, HO3, KB3, HB3⟩
      · have HE2 := Lib.hid (HE.out.trans HX.out.1.symm)
        obtain ⟨Aq, cq, rfl, hF⟩ := fr_of_ownz HO.out
        have HF := Lib.hid (hF.mono (lo' := w.heap.size) (by omega) (Nat.le_refl _))
        have HBf := Lib.hid (HB1.out.trans (HB.out.mono (by omega)))
        clear hF
        go_wp2_with fail
        go_ret
        rw [HE2.out, ← HX.out.2]
        exact ⟨_, _, rfl, HF.out, HBf.out⟩
end Go.Proofs.YtmelfgimhilhbaaGreatDoor
