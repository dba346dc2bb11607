/- GuardEdit, of the program and of the model. -/
import Derived.Test.YtomoigbhikihfaaSgF
import Derived.Test.YtomoigbhikihfaaSgG
import Derived.Test.YtomoigbhikihfaaApply
import Derived.Deep.RegionHeld3
import Derived.Deep.LoopGhost
namespace Go.Proofs.Ytomoigbhikihfaa
open Go Go.ChangeShapes Go.WideShapes Go.ChangeAt Go.RowKit Go.Lib
set_option linter.unusedVariables false
set_option linter.unusedSimpArgs false
set_option maxRecDepth 100000
def mGuard (l : List TNode) (h : List Int) (e : TEdit) : List TNode := if mMay l h e = true then mApply l e else l
def mGuardOk (l : List TNode) (h : List Int) (e : TEdit) : Bool := mMay l h e && (mEdited l e).isSome
theorem mGuard_len {l : List TNode} {e : TEdit} (h : List Int) (hok : cNodeOk l) (he : TEdit.fit e) : (mGuard l h e).length ≤ l.length + 16 := by
  unfold mGuard
  split
  · exact mApply_len hok he
  · omega
theorem mGuard_ok {l : List TNode} {e : TEdit} (h : List Int) (hok : cNodeOk l) (he : TEdit.fit e) : cNodeOk (mGuard l h e) := by
  unfold mGuard
  split
  · exact apply_ok hok he
  · exact hok
set_option maxHeartbeats 4000000 in
theorem impl_GuardEditC (l0 : List TNode) (A0 : Option Addr) (n0 c0 lo0 hi0 : Nat) (l1 : List Int) (A1 : Option Addr) (n1 c1 lo1 hi1 : Nat) (e : TEdit) (w : World) (h0 : n0 ≤ 1048576) (r0 : Rd w lo0 hi0 5 A0 n0 (cNode l0)) (p0 : n0 ≤ c0) (b0 : Hid (cNodeOk l0)) (h1 : n1 ≤ 1048576) (r1 : Rd w lo1 hi1 1 A1 n1 (i64s l1)) (p1 : n1 ≤ c1) (b1 : Hid (I64s l1)) (f2 : Hid (TEdit.fit e)) :
    Calls Try.prog 30 #[.slice A0 n0 c0, .slice A1 n1 c1, .agg #[.int .i64 e.f0, .int .i64 e.f1, .int .i64 e.f2, .int .i64 e.f3, .int .i64 e.f4, .int .i64 e.f5]] w (MakesV 54 5 (mGuard l0 l1 e).length (cNode (mGuard l0 l1 e)) (.bool (mGuardOk l0 l1 e)) w) := by
  have HL := Lib.hid (rd_len TNode.len r0 (by decide))
  have HR := Lib.hid r0
  have CM := Lib.hid (impl_MayEditC l0 A0 n0 c0 lo0 hi0 l1 A1 n1 c1 lo1 hi1 e (w.alloc (.cells #[.int .i64 e.f0, .int .i64 e.f1, .int .i64 e.f2, .int .i64 e.f3, .int .i64 e.f4, .int .i64 e.f5] 40)) h0 (r0.alloc _) p0 b0 h1 (r1.alloc _) p1 b1 f2)
  have KE0 := Lib.hid (box_new w 40 #[.int .i64 e.f0, .int .i64 e.f1, .int .i64 e.f2, .int .i64 e.f3, .int .i64 e.f4, .int .i64 e.f5])
  have HB0 := Lib.hid ((Below.refl w.heap.size w).alloc (Nat.le_refl _) (.cells #[.int .i64 e.f0, .int .i64 e.f1, .int .i64 e.f2, .int .i64 e.f3, .int .i64 e.f4, .int .i64 e.f5] 40))
  clear r0 r1
  cases hq : mMay l0 l1 e with
  | false =>
    rw [hq] at CM
    have HG := Lib.hid (show mGuard l0 l1 e = l0 by unfold mGuard; rw [hq]; rfl)
    have HO := Lib.hid (show mGuardOk l0 l1 e = false by unfold mGuardOk; rw [hq]; rfl)
    rw [HG.out, HO.out, HL.out]
    clear hq
    go_enter Try.func30, Try.ntmps30
    go_wp2_with fail
    refine CM.out.mono ?_
    rintro e1 w1 ⟨rfl, hb1⟩
    have HB1 := Lib.hid (below_trans HB0.out hb1 (by simp))
    have HR1 := Lib.hid ((HR.out.alloc (.cells #[.int .i64 e.f0, .int .i64 e.f1, .int .i64 e.f2, .int .i64 e.f3, .int .i64 e.f4, .int .i64 e.f5] 40)).new hb1)
    clear hb1 CM KE0 HB0
    go_wp2_with fail
    refine (clone_Node l0 A0 n0 c0 lo0 hi0 _ h0 HR1.out).mono ?_
    rintro e2 w2 ⟨v, rfl, ho, hb2⟩
    obtain ⟨A', c', rfl, hF⟩ := fr_of_own ho
    have HB2 := Lib.hid (below_trans HB1.out hb2 (Nat.le_refl _))
    have HF := Lib.hid (hF.mono (show w.heap.size ≤ w1.heap.size from HB1.out.size) (Nat.le_refl _))
    clear hF hb2
    go_wp2_with fail
    go_ret2
    exact ⟨_, _, rfl, HF.out, HB2.out⟩
  | true =>
    rw [hq] at CM
    have HG := Lib.hid (show mGuard l0 l1 e = mApply l0 e by unfold mGuard; rw [hq]; rfl)
    have HO := Lib.hid (show mGuardOk l0 l1 e = (mEdited l0 e).isSome by unfold mGuardOk; rw [hq]; rfl)
    rw [HG.out, HO.out]
    have CA := Lib.hid (fun W r => impl_ApplyEditC l0 A0 n0 c0 lo0 hi0 e W h0 r p0 b0 f2)
    generalize (mApply l0 e).length = m at CA ⊢
    generalize (mEdited l0 e).isSome = q at CA ⊢
    clear hq
    go_enter Try.func30, Try.ntmps30
    go_wp2_with fail
    refine CM.out.mono ?_
    rintro e1 w1 ⟨rfl, hb1⟩
    have HB1 := Lib.hid (below_trans HB0.out hb1 (by simp))
    have HR1 := Lib.hid ((HR.out.alloc (.cells #[.int .i64 e.f0, .int .i64 e.f1, .int .i64 e.f2, .int .i64 e.f3, .int .i64 e.f4, .int .i64 e.f5] 40)).new hb1)
    have KE1 := Lib.hid (KE0.out.new hb1)
    have k0 := KE1.out.at_ (j := 0) (u := .int .i64 e.f0) rfl
    have k1 := KE1.out.at_ (j := 1) (u := .int .i64 e.f1) rfl
    have k2 := KE1.out.at_ (j := 2) (u := .int .i64 e.f2) rfl
    have k3 := KE1.out.at_ (j := 3) (u := .int .i64 e.f3) rfl
    have k4 := KE1.out.at_ (j := 4) (u := .int .i64 e.f4) rfl
    have k5 := KE1.out.at_ (j := 5) (u := .int .i64 e.f5) rfl
    clear hb1 CM KE0 HB0
    go_wp2_with fail
    refine (CA.out _ HR1.out).mono ?_
    rintro e2 w2 ⟨A', c', rfl, hF, hb2⟩
    have HB2 := Lib.hid (below_trans HB1.out hb2 (Nat.le_refl _))
    have HF := Lib.hid (hF.mono (show w.heap.size ≤ w1.heap.size from HB1.out.size) (Nat.le_refl _))
    clear hF hb2 CA
    go_wp2_with fail
    go_ret2
    exact ⟨_, _, rfl, HF.out, HB2.out⟩
set_option maxHeartbeats 4000000 in
theorem spec_GuardEdit (l0 : List TNode) (A0 : Option Addr) (n0 c0 lo0 hi0 : Nat) (l1 : List Int) (A1 : Option Addr) (n1 c1 lo1 hi1 : Nat) (e : TEdit) (w : World) (h0 : n0 ≤ 1048576) (r0 : Rd w lo0 hi0 5 A0 n0 (cNode l0)) (p0 : n0 ≤ c0) (b0 : Hid (cNodeOk l0)) (h1 : n1 ≤ 1048576) (r1 : Rd w lo1 hi1 1 A1 n1 (i64s l1)) (p1 : n1 ≤ c1) (b1 : Hid (I64s l1)) (f2 : Hid (TEdit.fit e)) :
    Calls Try.prog 29 #[.slice A0 n0 c0, .slice A1 n1 c1, .agg #[.int .i64 e.f0, .int .i64 e.f1, .int .i64 e.f2, .int .i64 e.f3, .int .i64 e.f4, .int .i64 e.f5]] w (MakesV 54 5 (mGuard l0 l1 e).length (cNode (mGuard l0 l1 e)) (.bool (mGuardOk l0 l1 e)) w) := by
  have HL := Lib.hid (rd_len TNode.len r0 (by decide))
  have HR := Lib.hid r0
  have CM := Lib.hid (spec_MayEdit l0 A0 n0 c0 lo0 hi0 l1 A1 n1 c1 lo1 hi1 e (w.alloc (.cells #[.int .i64 e.f0, .int .i64 e.f1, .int .i64 e.f2, .int .i64 e.f3, .int .i64 e.f4, .int .i64 e.f5] 40)) h0 (r0.alloc _) p0 b0 h1 (r1.alloc _) p1 b1 f2)
  have KE0 := Lib.hid (box_new w 40 #[.int .i64 e.f0, .int .i64 e.f1, .int .i64 e.f2, .int .i64 e.f3, .int .i64 e.f4, .int .i64 e.f5])
  have HB0 := Lib.hid ((Below.refl w.heap.size w).alloc (Nat.le_refl _) (.cells #[.int .i64 e.f0, .int .i64 e.f1, .int .i64 e.f2, .int .i64 e.f3, .int .i64 e.f4, .int .i64 e.f5] 40))
  clear r0 r1
  cases hq : mMay l0 l1 e with
  | false =>
    rw [hq] at CM
    have HG := Lib.hid (show mGuard l0 l1 e = l0 by unfold mGuard; rw [hq]; rfl)
    have HO := Lib.hid (show mGuardOk l0 l1 e = false by unfold mGuardOk; rw [hq]; rfl)
    rw [HG.out, HO.out, HL.out]
    clear hq
    go_enter Try.func29, Try.ntmps29
    go_wp2_with fail
    refine CM.out.mono ?_
    rintro e1 w1 ⟨rfl, hb1⟩
    have HB1 := Lib.hid (below_trans HB0.out hb1 (by simp))
    have HR1 := Lib.hid ((HR.out.alloc (.cells #[.int .i64 e.f0, .int .i64 e.f1, .int .i64 e.f2, .int .i64 e.f3, .int .i64 e.f4, .int .i64 e.f5] 40)).new hb1)
    clear hb1 CM KE0 HB0
    go_wp2_with fail
    refine (l5_copy l0 A0 n0 c0 lo0 hi0 _ h0 HR1.out).mono ?_
    rintro e2 w2 ⟨v, rfl, ho, hb2⟩
    obtain ⟨A', c', rfl, hF⟩ := fr_of_own ho
    have HB2 := Lib.hid (below_trans HB1.out hb2 (Nat.le_refl _))
    have HF := Lib.hid (hF.mono (show w.heap.size ≤ w1.heap.size from HB1.out.size) (Nat.le_refl _))
    clear hF hb2
    go_wp2_with fail
    go_ret2
    exact ⟨_, _, rfl, HF.out, HB2.out⟩
  | true =>
    rw [hq] at CM
    have HG := Lib.hid (show mGuard l0 l1 e = mApply l0 e by unfold mGuard; rw [hq]; rfl)
    have HO := Lib.hid (show mGuardOk l0 l1 e = (mEdited l0 e).isSome by unfold mGuardOk; rw [hq]; rfl)
    rw [HG.out, HO.out]
    have CA := Lib.hid (fun W r => spec_ApplyEdit l0 A0 n0 c0 lo0 hi0 e W h0 r p0 b0 f2)
    generalize (mApply l0 e).length = m at CA ⊢
    generalize (mEdited l0 e).isSome = q at CA ⊢
    clear hq
    go_enter Try.func29, Try.ntmps29
    go_wp2_with fail
    refine CM.out.mono ?_
    rintro e1 w1 ⟨rfl, hb1⟩
    have HB1 := Lib.hid (below_trans HB0.out hb1 (by simp))
    have HR1 := Lib.hid ((HR.out.alloc (.cells #[.int .i64 e.f0, .int .i64 e.f1, .int .i64 e.f2, .int .i64 e.f3, .int .i64 e.f4, .int .i64 e.f5] 40)).new hb1)
    have KE1 := Lib.hid (KE0.out.new hb1)
    have k0 := KE1.out.at_ (j := 0) (u := .int .i64 e.f0) rfl
    have k1 := KE1.out.at_ (j := 1) (u := .int .i64 e.f1) rfl
    have k2 := KE1.out.at_ (j := 2) (u := .int .i64 e.f2) rfl
    have k3 := KE1.out.at_ (j := 3) (u := .int .i64 e.f3) rfl
    have k4 := KE1.out.at_ (j := 4) (u := .int .i64 e.f4) rfl
    have k5 := KE1.out.at_ (j := 5) (u := .int .i64 e.f5) rfl
    clear hb1 CM KE0 HB0
    go_wp2_with fail
    refine (CA.out _ HR1.out).mono ?_
    rintro e2 w2 ⟨A', c', rfl, hF, hb2⟩
    have HB2 := Lib.hid (below_trans HB1.out hb2 (Nat.le_refl _))
    have HF := Lib.hid (hF.mono (show w.heap.size ≤ w1.heap.size from HB1.out.size) (Nat.le_refl _))
    clear hF hb2 CA
    go_wp2_with fail
    go_ret2
    exact ⟨_, _, rfl, HF.out, HB2.out⟩
end Go.Proofs.Ytomoigbhikihfaa
