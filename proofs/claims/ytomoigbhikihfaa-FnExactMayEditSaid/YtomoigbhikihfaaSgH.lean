/- HiddenCount and SeesNode, of the program and of the model. -/
import Derived.Test.YtomoigbhikihfaaSgJ
import Derived.Test.YtomoigbhikihfaaSgS
namespace Go.Proofs.Ytomoigbhikihfaa
open Go Go.ChangeShapes Go.WideShapes Go.ChangeAt Go.RowKit Go.Lib
set_option linter.unusedVariables false
set_option linter.unusedSimpArgs false
set_option maxRecDepth 100000

def mHidC (l : List TNode) (h : List Int) (b : Int) : Int := (l.length : Int) - ((mSeen l h b).length : Int)
theorem impl_HiddenCountC (l0 : List TNode) (A0 : Option Addr) (n0 c0 lo0 hi0 : Nat) (l1 : List Int) (A1 : Option Addr) (n1 c1 lo1 hi1 : Nat) (a2 : Int) (w : World) (h0 : n0 ≤ 1048576) (r0 : Rd w lo0 hi0 5 A0 n0 (cNode l0)) (p0 : n0 ≤ c0) (b0 : Hid (cNodeOk l0)) (h1 : n1 ≤ 1048576) (r1 : Rd w lo1 hi1 1 A1 n1 (i64s l1)) (p1 : n1 ≤ c1) (b1 : Hid (I64s l1)) (w2 : (Lit.int .i64 a2).wf = true) :
    Calls Try.prog 23 #[.slice A0 n0 c0, .slice A1 n1 c1, .int .i64 a2] w (Says (.int .i64 (mHidC l0 l1 a2)) w) := by
  have HE := Lib.hid (show mHidC l0 l1 a2 = (n0 : Int) - ((mSeen l0 l1 a2).length : Int) by unfold mHidC; rw [rd_len TNode.len r0 (by decide)])
  have hm : (mSeen l0 l1 a2).length ≤ n0 := by have := mSeen_len l0 l1 a2; have := rd_len TNode.len r0 (by decide); omega
  have HC := Lib.hid (impl_SeenByC l0 A0 n0 c0 lo0 hi0 l1 A1 n1 c1 lo1 hi1 a2 w h0 r0 p0 b0 h1 r1 p1 b1 w2)
  generalize (mSeen l0 l1 a2).length = m at HE hm HC
  have gw : IntKind.i64.wrap ((n0 : Int) - (m : Int)) = (n0 : Int) - (m : Int) := IntWalk.i64_in _ (by omega)
  clear r0 r1 w2
  go_enter Try.func23, Try.ntmps23
  go_wp2_with fail
  refine HC.out.mono ?_
  rintro e1 w1 ⟨A, c, rfl, hF, hb⟩
  have HB := Lib.hid hb
  clear hb hF HC
  go_wp2_with fail
  go_ret
  exact ⟨by rw [HE.out]; first | rfl | simp [gw], HB.out⟩
theorem spec_HiddenCount (l0 : List TNode) (A0 : Option Addr) (n0 c0 lo0 hi0 : Nat) (l1 : List Int) (A1 : Option Addr) (n1 c1 lo1 hi1 : Nat) (a2 : Int) (w : World) (h0 : n0 ≤ 1048576) (r0 : Rd w lo0 hi0 5 A0 n0 (cNode l0)) (p0 : n0 ≤ c0) (b0 : Hid (cNodeOk l0)) (h1 : n1 ≤ 1048576) (r1 : Rd w lo1 hi1 1 A1 n1 (i64s l1)) (p1 : n1 ≤ c1) (b1 : Hid (I64s l1)) (w2 : (Lit.int .i64 a2).wf = true) :
    Calls Try.prog 22 #[.slice A0 n0 c0, .slice A1 n1 c1, .int .i64 a2] w (Says (.int .i64 (mHidC l0 l1 a2)) w) := by
  have HE := Lib.hid (show mHidC l0 l1 a2 = (n0 : Int) - ((mSeen l0 l1 a2).length : Int) by unfold mHidC; rw [rd_len TNode.len r0 (by decide)])
  have hm : (mSeen l0 l1 a2).length ≤ n0 := by have := mSeen_len l0 l1 a2; have := rd_len TNode.len r0 (by decide); omega
  have HC := Lib.hid (spec_SeenBy l0 A0 n0 c0 lo0 hi0 l1 A1 n1 c1 lo1 hi1 a2 w h0 r0 p0 b0 h1 r1 p1 b1 w2)
  generalize (mSeen l0 l1 a2).length = m at HE hm HC
  have gw : IntKind.i64.wrap ((n0 : Int) - (m : Int)) = (n0 : Int) - (m : Int) := IntWalk.i64_in _ (by omega)
  clear r0 r1 w2
  go_enter Try.func22, Try.ntmps22
  go_wp2_with fail
  refine HC.out.mono ?_
  rintro e1 w1 ⟨A, c, rfl, hF, hb⟩
  have HB := Lib.hid hb
  clear hb hF HC
  go_wp2_with fail
  go_ret
  exact ⟨by rw [HE.out]; first | rfl | simp [gw], HB.out⟩
theorem sight_field1 (A : Option Addr) (n c : Nat) (r q : Option Nat) (w : World) : (Instr.field 62 (.agg #[.slice A n c, .map r, .map q]) 1).run Try.prog w = .ok (.map q) w := by kernel_rfl
theorem sight_field0 (A : Option Addr) (n c : Nat) (r q : Option Nat) (w : World) : (Instr.field 62 (.agg #[.slice A n c, .map r, .map q]) 0).run Try.prog w = .ok (.agg #[.slice A n c, .map r]) w := by kernel_rfl
theorem impl_SeesNodeC (l0 : List TNode) (A0 : Option Addr) (n0 c0 lo0 hi0 : Nat) (l1 : List Int) (A1 : Option Addr) (n1 c1 lo1 hi1 : Nat) (a2 : Int) (a3 : Int) (w : World) (h0 : n0 ≤ 1048576) (r0 : Rd w lo0 hi0 5 A0 n0 (cNode l0)) (p0 : n0 ≤ c0) (b0 : Hid (cNodeOk l0)) (h1 : n1 ≤ 1048576) (r1 : Rd w lo1 hi1 1 A1 n1 (i64s l1)) (p1 : n1 ≤ c1) (b1 : Hid (I64s l1)) (w2 : (Lit.int .i64 a2).wf = true) (w3 : (Lit.int .i64 a3).wf = true) :
    Calls Try.prog 25 #[.slice A0 n0 c0, .slice A1 n1 c1, .int .i64 a2, .int .i64 a3] w (Says (.bool (mLook l0 l1 a2 a3)) w) := by
  have W3 := Lib.hid w3
  have HR := Lib.hid r0
  have HR1 := Lib.hid r1
  generalize hX : mLook l0 l1 a2 a3 = X
  have HX := Lib.hid hX
  have hf1 := sight_field1
  clear r0 r1 w2 w3 hX
  go_enter Try.func25, Try.ntmps25
  go_wp2_with fail
  refine (look_any l0 A0 n0 c0 lo0 hi0 l1 A1 n1 c1 lo1 hi1 a2 _ h0 HR.out b0 h1 HR1.out).mono ?_
  rintro e1 w1 ⟨B, M, kk, rfl, hP, hM, hB, hMl, hb1⟩
  have hlk := hM.look Try.underlying60 a3 W3.out
  rw [HX.out] at hlk
  have HB := Lib.hid hb1
  clear hb1 hP hM
  go_wp2_with fail
  go_ret
  exact ⟨rfl, HB.out⟩
theorem spec_SeesNode' (X : Bool) (l0 : List TNode) (A0 : Option Addr) (n0 c0 lo0 hi0 : Nat) (l1 : List Int) (A1 : Option Addr) (n1 c1 lo1 hi1 : Nat) (a2 : Int) (a3 : Int) (w : World) (h0 : n0 ≤ 1048576) (r0 : Rd w lo0 hi0 5 A0 n0 (cNode l0)) (p0 : n0 ≤ c0) (b0 : Hid (cNodeOk l0)) (h1 : n1 ≤ 1048576) (r1 : Rd w lo1 hi1 1 A1 n1 (i64s l1)) (p1 : n1 ≤ c1) (b1 : Hid (I64s l1)) (w2 : (Lit.int .i64 a2).wf = true) (w3 : (Lit.int .i64 a3).wf = true) (hX : Hid (mLook l0 l1 a2 a3 = X)) :
    Calls Try.prog 24 #[.slice A0 n0 c0, .slice A1 n1 c1, .int .i64 a2, .int .i64 a3] w (Says (.bool X) w) := by
  have HC := Lib.hid (spec_SeenBy l0 A0 n0 c0 lo0 hi0 l1 A1 n1 c1 lo1 hi1 a2 w h0 r0 p0 b0 h1 r1 p1 b1 w2)
  have hm : (mSeen l0 l1 a2).length ≤ n0 := by have := mSeen_len l0 l1 a2; have := rd_len TNode.len r0 (by decide); omega
  have gn : decide (0 ≤ mNodeOf (mSeen l0 l1 a2) a3) = X := by
    rw [← hX.out]
    unfold mLook
    cases hi : (idx (mSeen l0 l1 a2) a3).isSome with
    | true => have := mNodeOf_pos hi; simpa using this
    | false => have := mNodeOf_neg hi; simpa using this
  generalize (mSeen l0 l1 a2).length = m at hm HC
  clear r0 r1 w2
  go_enter Try.func24, Try.ntmps24
  go_wp2_with fail
  refine HC.out.mono ?_
  rintro e1 w1 ⟨A, c, rfl, hF, hb⟩
  have HB := Lib.hid hb
  have HF := Lib.hid hF.rd
  clear hb hF HC
  go_wp2_with fail
  refine (spec_NodeOf' (mSeen l0 l1 a2) A m c _ _ a3 _ (by omega) HF.out).mono ?_
  rintro e2 w2 ⟨rfl, rfl⟩
  generalize mNodeOf (mSeen l0 l1 a2) a3 = y at gn ⊢
  have GN := Lib.hid gn
  clear gn
  go_wp2_with fail
  go_ret
  exact ⟨by rw [← GN.out]; first | rfl | simp, HB.out⟩
theorem spec_SeesNode (l0 : List TNode) (A0 : Option Addr) (n0 c0 lo0 hi0 : Nat) (l1 : List Int) (A1 : Option Addr) (n1 c1 lo1 hi1 : Nat) (a2 : Int) (a3 : Int) (w : World) (h0 : n0 ≤ 1048576) (r0 : Rd w lo0 hi0 5 A0 n0 (cNode l0)) (p0 : n0 ≤ c0) (b0 : Hid (cNodeOk l0)) (h1 : n1 ≤ 1048576) (r1 : Rd w lo1 hi1 1 A1 n1 (i64s l1)) (p1 : n1 ≤ c1) (b1 : Hid (I64s l1)) (w2 : (Lit.int .i64 a2).wf = true) (w3 : (Lit.int .i64 a3).wf = true) :
    Calls Try.prog 24 #[.slice A0 n0 c0, .slice A1 n1 c1, .int .i64 a2, .int .i64 a3] w (Says (.bool (mLook l0 l1 a2 a3)) w) := spec_SeesNode' _ l0 A0 n0 c0 lo0 hi0 l1 A1 n1 c1 lo1 hi1 a2 a3 w h0 r0 p0 b0 h1 r1 p1 b1 w2 w3 (Lib.hid rfl)
end Go.Proofs.Ytomoigbhikihfaa
