/- OpenTab, of the program and of the model. -/
import Derived.Test.YtoclpdbgmpdbmaaTabCl
import Derived.Test.YtoclpdbgmpdbmaaIsTabS
namespace Go.Proofs.Ytoclpdbgmpdbmaa
open Go Go.ChangeShapes Go.WideShapes Go.ChangeAt Go.RowKit Go.Lib
set_option linter.unusedVariables false
set_option linter.unusedSimpArgs false
set_option maxRecDepth 100000
/-- OpenTab's answer: whether it succeeds, and the tab's parts. -/
def mOTk (s : TSite) (b : List TNode) (h : List Int) : Bool := mIsTab s b [] h (-1)
def mOTs (s : TSite) (b : List TNode) (h : List Int) : TSite := if mOTk s b h = true then s else ⟨0, 0⟩
def mOTb (s : TSite) (b : List TNode) (h : List Int) : List TNode := if mOTk s b h = true then b else []
def mOTh (s : TSite) (b : List TNode) (h : List Int) : List Int := if mOTk s b h = true then h else []
def mOTc (s : TSite) (b : List TNode) (h : List Int) : Int := if mOTk s b h = true then -1 else 0
def noEd : List TEdit := []
theorem mOTb_len (s : TSite) (b : List TNode) (h : List Int) : (mOTb s b h).length ≤ b.length := by unfold mOTb; split <;> simp
theorem mOTh_len (s : TSite) (b : List TNode) (h : List Int) : (mOTh s b h).length ≤ h.length := by unfold mOTh; split <;> simp
theorem mOT_yes {s : TSite} {b : List TNode} {h : List Int} (e : mOTk s b h = true) : mOTs s b h = s ∧ mOTb s b h = b ∧ mOTh s b h = h ∧ mOTc s b h = -1 := by unfold mOTs mOTb mOTh mOTc; simp [e]
theorem mOT_no {s : TSite} {b : List TNode} {h : List Int} (e : mOTk s b h = false) : mOTs s b h = ⟨0, 0⟩ ∧ mOTb s b h = [] ∧ mOTh s b h = [] ∧ mOTc s b h = 0 := by unfold mOTs mOTb mOTh mOTc; simp [e]
theorem fr_none {w : World} {lo hi size : Nat} {E : TypeId} {c : Nat} {A : Option Addr} : Fr w lo hi E size A 0 c [] := ⟨by simp, fun h => absurd h (by omega)⟩
/-- A call that answers a new tab of these parts and a truth value, and leaves what was there. -/
def MakesTabV (s0 : TSite) (n1 : Nat) (l1 : List TNode) (n2 : Nat) (l2 : List TEdit) (n3 : Nat) (l3 : List Int) (p4 : Int) (ok : Bool) (w : World) (e : Ending) (w' : World) : Prop :=
  ∃ (A1 A2 A3 : Option Addr) (c1 lo1 hi1 c2 lo2 hi2 c3 lo3 hi3 : Nat), e = .returned (.tuple #[.agg #[.int .i64 s0.f0, .int .i64 s0.f1, .slice A1 n1 c1, .slice A2 n2 c2, .slice A3 n3 c3, .int .i64 p4], .bool ok]) ∧ Fr w' lo1 hi1 102 5 A1 n1 c1 (cNode l1) ∧ Fr w' lo2 hi2 107 6 A2 n2 c2 (cEdit l2) ∧ Fr w' lo3 hi3 3 1 A3 n3 c3 (i64s l3) ∧ Hid (SepTab w.heap.size w'.heap.size lo1 hi1 lo2 hi2 lo3 hi3) ∧ Below w.heap.size w w'

set_option maxHeartbeats 16000000 in
theorem impl_OpenTabC (a0 : TSite) (l1 : List TNode) (A1 : Option Addr) (n1 c1 lo1 hi1 : Nat) (l2 : List Int) (A2 : Option Addr) (n2 c2 lo2 hi2 : Nat) (w : World) (b0 : Hid (TSite.fit a0)) (h1 : n1 ≤ 1048576) (r1 : Rd w lo1 hi1 5 A1 n1 (cNode l1)) (k1 : n1 ≤ c1) (b1 : Hid (cNodeOk l1)) (h2 : n2 ≤ 1048576) (r2 : Rd w lo2 hi2 1 A2 n2 (i64s l2)) (k2 : n2 ≤ c2) (b2 : Hid (I64s l2)) :
    Calls Try.prog 58 #[.agg #[.int .i64 a0.f0, .int .i64 a0.f1], .slice A1 n1 c1, .slice A2 n2 c2] w (MakesTabV (mOTs a0 l1 l2) (mOTb a0 l1 l2).length (mOTb a0 l1 l2) noEd.length noEd (mOTh a0 l1 l2).length (mOTh a0 l1 l2) (mOTc a0 l1 l2) (mOTk a0 l1 l2) w) := by
  have HL1 := rd_len TNode.len r1 (by decide)
  have HL2 : l2.length = n2 := by simpa [i64s] using r2.1
  have R1 := Lib.hid r1
  have R2 := Lib.hid r2
  clear r1 r2
  have HB := Lib.hid (Below.refl w.heap.size w)
  have KR := Lib.hid (show BoxAt ((w.alloc (.cells #[.int .i64 a0.f0, .int .i64 a0.f1] 84)).alloc (.cells #[.int .i64 0, .int .i64 0, .slice none 0 0, .slice none 0 0, .slice none 0 0, .int .i64 0] 86)) (w.heap.size + 1) 86 #[.int .i64 0, .int .i64 0, .slice none 0 0, .slice none 0 0, .slice none 0 0, .int .i64 0] from by simpa using box_new (w.alloc (.cells #[.int .i64 a0.f0, .int .i64 a0.f1] 84)) 86 #[.int .i64 0, .int .i64 0, .slice none 0 0, .slice none 0 0, .slice none 0 0, .int .i64 0])
  have KT := Lib.hid (show BoxAt (((w.alloc (.cells #[.int .i64 a0.f0, .int .i64 a0.f1] 84)).alloc (.cells #[.int .i64 0, .int .i64 0, .slice none 0 0, .slice none 0 0, .slice none 0 0, .int .i64 0] 86)).alloc (.cells #[.int .i64 a0.f0, .int .i64 a0.f1, .slice A1 n1 c1, .slice none 0 0, .slice A2 n2 c2, .int .i64 (-1)] 86)) (w.heap.size + 1 + 1) 86 #[.int .i64 a0.f0, .int .i64 a0.f1, .slice A1 n1 c1, .slice none 0 0, .slice A2 n2 c2, .int .i64 (-1)] from by simpa using box_new ((w.alloc (.cells #[.int .i64 a0.f0, .int .i64 a0.f1] 84)).alloc (.cells #[.int .i64 0, .int .i64 0, .slice none 0 0, .slice none 0 0, .slice none 0 0, .int .i64 0] 86)) 86 #[.int .i64 a0.f0, .int .i64 a0.f1, .slice A1 n1 c1, .slice none 0 0, .slice A2 n2 c2, .int .i64 (-1)])
  replace KR := Lib.hid (KR.out.alloc_ (.cells #[.int .i64 a0.f0, .int .i64 a0.f1, .slice A1 n1 c1, .slice none 0 0, .slice A2 n2 c2, .int .i64 (-1)] 86))
  have CI := fun (W : World) (q1 : Rd W lo1 hi1 5 A1 n1 (cNode l1)) (q2 : Rd W lo2 hi2 1 A2 n2 (i64s l2)) => impl_IsTabC a0 l1 A1 n1 c1 lo1 hi1 [] none 0 0 0 0 l2 A2 n2 c2 lo2 hi2 (-1) W b0 h1 q1 k1 b1 (Nat.zero_le _) Rd.empty (Nat.le_refl _) (Lib.hid (fun _ h => by cases h)) h2 q2 k2 b2
  rw [show mIsTab a0 l1 [] l2 (-1) = mOTk a0 l1 l2 from rfl] at CI
  cases hq : mOTk a0 l1 l2 with
  | false =>
    rw [hq] at CI
    replace CI := Lib.hid CI
    obtain ⟨e1, e2, e3, e4⟩ := mOT_no hq
    rw [e1, e2, e3, e4]
    clear hq e1 e2 e3 e4
    go_enter Try.func58, Try.ntmps58
    go_wp2_with fail
    refine Calls.mono (CI.out _ (R1.out.new (by repeat (first | with_reducible exact Below.refl _ _ | (with_reducible exact HB.out) | (with_reducible refine Below.setCell ?_ (by first | omega | (simp; done) | (simp <;> omega)) _) | (with_reducible refine Below.alloc ?_ (by first | omega | (simp; done) | (simp <;> omega)) _) | (refine Below.alloc ?_ (by first | omega | (simp; done) | (simp <;> omega)) _) | (refine Below.setCell ?_ (by first | omega | (simp; done) | (simp <;> omega)) _)))) (R2.out.new (by repeat (first | with_reducible exact Below.refl _ _ | (with_reducible exact HB.out) | (with_reducible refine Below.setCell ?_ (by first | omega | (simp; done) | (simp <;> omega)) _) | (with_reducible refine Below.alloc ?_ (by first | omega | (simp; done) | (simp <;> omega)) _) | (refine Below.alloc ?_ (by first | omega | (simp; done) | (simp <;> omega)) _) | (refine Below.setCell ?_ (by first | omega | (simp; done) | (simp <;> omega)) _))))) ?_
    rintro e w1 ⟨rfl, hb⟩
    replace KR := Lib.hid (KR.out.new hb)
    replace KT := Lib.hid (KT.out.new hb)
    have hs1 := hb.size
    (try simp at hs1)
    replace HB := Lib.hid (show Below w.heap.size w w1 from Below.trans (by repeat (first | with_reducible exact Below.refl _ _ | (with_reducible exact HB.out) | (with_reducible refine Below.setCell ?_ (by first | omega | (simp; done) | (simp <;> omega)) _) | (with_reducible refine Below.alloc ?_ (by first | omega | (simp; done) | (simp <;> omega)) _) | (refine Below.alloc ?_ (by first | omega | (simp; done) | (simp <;> omega)) _) | (refine Below.setCell ?_ (by first | omega | (simp; done) | (simp <;> omega)) _))) (hb.mono (by first | omega | (simp; done) | (simp <;> omega))))
    have z1_0 : w.heap.size < w1.heap.size := by omega
    have z1_1 : w.heap.size + 1 < w1.heap.size := by omega
    have z1_2 : w.heap.size + 1 + 1 < w1.heap.size := by omega
    clear hb
    have q0 := KR.out.at_ (j := 0) rfl
    have q1 := KR.out.at_ (j := 1) rfl
    have q2 := KR.out.at_ (j := 2) rfl
    have q3 := KR.out.at_ (j := 3) rfl
    have q4 := KR.out.at_ (j := 4) rfl
    have q5 := KR.out.at_ (j := 5) rfl
    have qf := fun j => KR.out.free j
    go_wp2_with fail
    have KF := (box_put (box_put (box_put (box_put (box_put (box_put KR.out 0 (.int .i64 0)) 1 (.int .i64 0)) 2 (.slice none 0 0)) 3 (.slice none 0 0)) 4 (.slice none 0 0)) 5 (.int .i64 0))
    have f0 := KF.at_ (j := 0) rfl
    have f1 := KF.at_ (j := 1) rfl
    have f2 := KF.at_ (j := 2) rfl
    have f3 := KF.at_ (j := 3) rfl
    have f4 := KF.at_ (j := 4) rfl
    have f5 := KF.at_ (j := 5) rfl
    exact bodyPost_ret (v := .tuple #[.agg #[.int .i64 0, .int .i64 0, .slice none 0 0, .slice none 0 0, .slice none 0 0, .int .i64 0], .bool false]) (by simp [results, Try.results58, go_sem, f0, f1, f2, f3, f4, f5]) rfl
      ⟨none, none, none, 0, w.heap.size, w.heap.size, 0, w.heap.size, w.heap.size, 0, w.heap.size, w.heap.size, rfl, fr_none, fr_none, fr_none, Lib.hid (by unfold SepTab; simp <;> omega), by repeat (first | with_reducible exact Below.refl _ _ | (with_reducible exact HB.out) | (with_reducible refine Below.setCell ?_ (by first | omega | (simp; done) | (simp <;> omega)) _) | (with_reducible refine Below.alloc ?_ (by first | omega | (simp; done) | (simp <;> omega)) _) | (refine Below.alloc ?_ (by first | omega | (simp; done) | (simp <;> omega)) _) | (refine Below.setCell ?_ (by first | omega | (simp; done) | (simp <;> omega)) _))⟩
  | true =>
    rw [hq] at CI
    replace CI := Lib.hid CI
    obtain ⟨e1, e2, e3, e4⟩ := mOT_yes hq
    rw [e1, e2, e3, e4, HL1, HL2]
    clear hq e1 e2 e3 e4
    go_enter Try.func58, Try.ntmps58
    go_wp2_with fail
    refine Calls.mono (CI.out _ (R1.out.new (by repeat (first | with_reducible exact Below.refl _ _ | (with_reducible exact HB.out) | (with_reducible refine Below.setCell ?_ (by first | omega | (simp; done) | (simp <;> omega)) _) | (with_reducible refine Below.alloc ?_ (by first | omega | (simp; done) | (simp <;> omega)) _) | (refine Below.alloc ?_ (by first | omega | (simp; done) | (simp <;> omega)) _) | (refine Below.setCell ?_ (by first | omega | (simp; done) | (simp <;> omega)) _)))) (R2.out.new (by repeat (first | with_reducible exact Below.refl _ _ | (with_reducible exact HB.out) | (with_reducible refine Below.setCell ?_ (by first | omega | (simp; done) | (simp <;> omega)) _) | (with_reducible refine Below.alloc ?_ (by first | omega | (simp; done) | (simp <;> omega)) _) | (refine Below.alloc ?_ (by first | omega | (simp; done) | (simp <;> omega)) _) | (refine Below.setCell ?_ (by first | omega | (simp; done) | (simp <;> omega)) _))))) ?_
    rintro e w1 ⟨rfl, hb⟩
    replace KR := Lib.hid (KR.out.new hb)
    replace KT := Lib.hid (KT.out.new hb)
    have hs1 := hb.size
    (try simp at hs1)
    replace HB := Lib.hid (show Below w.heap.size w w1 from Below.trans (by repeat (first | with_reducible exact Below.refl _ _ | (with_reducible exact HB.out) | (with_reducible refine Below.setCell ?_ (by first | omega | (simp; done) | (simp <;> omega)) _) | (with_reducible refine Below.alloc ?_ (by first | omega | (simp; done) | (simp <;> omega)) _) | (refine Below.alloc ?_ (by first | omega | (simp; done) | (simp <;> omega)) _) | (refine Below.setCell ?_ (by first | omega | (simp; done) | (simp <;> omega)) _))) (hb.mono (by first | omega | (simp; done) | (simp <;> omega))))
    have z1_0 : w.heap.size < w1.heap.size := by omega
    have z1_1 : w.heap.size + 1 < w1.heap.size := by omega
    have z1_2 : w.heap.size + 1 + 1 < w1.heap.size := by omega
    clear hb
    have k0 := KT.out.at_ (j := 0) rfl
    have k1 := KT.out.at_ (j := 1) rfl
    have k2 := KT.out.at_ (j := 2) rfl
    have k3 := KT.out.at_ (j := 3) rfl
    have k4 := KT.out.at_ (j := 4) rfl
    have k5 := KT.out.at_ (j := 5) rfl
    go_wp2_with fail
    clear k0 k1 k2 k3 k4 k5
    refine Calls.mono (clone_Tab a0 l1 A1 n1 c1 lo1 hi1 [] none 0 0 0 0 l2 A2 n2 c2 lo2 hi2 (-1) _ h1 (R1.out.new (by repeat (first | with_reducible exact Below.refl _ _ | (with_reducible exact HB.out) | (with_reducible refine Below.setCell ?_ (by first | omega | (simp; done) | (simp <;> omega)) _) | (with_reducible refine Below.alloc ?_ (by first | omega | (simp; done) | (simp <;> omega)) _) | (refine Below.alloc ?_ (by first | omega | (simp; done) | (simp <;> omega)) _) | (refine Below.setCell ?_ (by first | omega | (simp; done) | (simp <;> omega)) _)))) (Nat.zero_le _) Rd.empty h2 (R2.out.new (by repeat (first | with_reducible exact Below.refl _ _ | (with_reducible exact HB.out) | (with_reducible refine Below.setCell ?_ (by first | omega | (simp; done) | (simp <;> omega)) _) | (with_reducible refine Below.alloc ?_ (by first | omega | (simp; done) | (simp <;> omega)) _) | (refine Below.alloc ?_ (by first | omega | (simp; done) | (simp <;> omega)) _) | (refine Below.setCell ?_ (by first | omega | (simp; done) | (simp <;> omega)) _))))) ?_
    rintro e w2 ⟨X1, X2, X3, d1, u1, v1, d2, u2, v2, d3, u3, v3, rfl, F1, F2, F3, hsep, hb⟩
    have hsep := hsep.out
    unfold SepTab at hsep
    replace F2 : Fr w2 u2 v2 107 6 X2 noEd.length d2 (cEdit noEd) := F2
    replace KR := Lib.hid (KR.out.new hb)
    have hs2 := hb.size
    (try simp at hs2)
    replace HB := Lib.hid (show Below w.heap.size w w2 from Below.trans (by repeat (first | with_reducible exact Below.refl _ _ | (with_reducible exact HB.out) | (with_reducible refine Below.setCell ?_ (by first | omega | (simp; done) | (simp <;> omega)) _) | (with_reducible refine Below.alloc ?_ (by first | omega | (simp; done) | (simp <;> omega)) _) | (refine Below.alloc ?_ (by first | omega | (simp; done) | (simp <;> omega)) _) | (refine Below.setCell ?_ (by first | omega | (simp; done) | (simp <;> omega)) _))) (hb.mono (by first | omega | (simp; done) | (simp <;> omega))))
    have z2_0 : w.heap.size < w2.heap.size := by omega
    have z2_1 : w.heap.size + 1 < w2.heap.size := by omega
    have z2_2 : w.heap.size + 1 + 1 < w2.heap.size := by omega
    clear hb
    have q0 := KR.out.at_ (j := 0) rfl
    have q1 := KR.out.at_ (j := 1) rfl
    have q2 := KR.out.at_ (j := 2) rfl
    have q3 := KR.out.at_ (j := 3) rfl
    have q4 := KR.out.at_ (j := 4) rfl
    have q5 := KR.out.at_ (j := 5) rfl
    have qf := fun j => KR.out.free j
    go_wp2_with fail
    have KF := (box_put (box_put (box_put (box_put (box_put (box_put KR.out 0 (.int .i64 a0.f0)) 1 (.int .i64 a0.f1)) 2 (.slice X1 n1 d1)) 3 (.slice X2 0 d2)) 4 (.slice X3 n2 d3)) 5 (.int .i64 (-1)))
    have f0 := KF.at_ (j := 0) rfl
    have f1 := KF.at_ (j := 1) rfl
    have f2 := KF.at_ (j := 2) rfl
    have f3 := KF.at_ (j := 3) rfl
    have f4 := KF.at_ (j := 4) rfl
    have f5 := KF.at_ (j := 5) rfl
    exact bodyPost_ret (v := .tuple #[.agg #[.int .i64 a0.f0, .int .i64 a0.f1, .slice X1 n1 d1, .slice X2 0 d2, .slice X3 n2 d3, .int .i64 (-1)], .bool true]) (by simp [results, Try.results58, go_sem, f0, f1, f2, f3, f4, f5]) rfl
      ⟨X1, X2, X3, d1, u1, v1, d2, u2, v2, d3, u3, v3, rfl, (by repeat (first | with_reducible exact F1 | (with_reducible refine Fr.put ?_ (by first | omega | (simp; done) | (simp <;> omega)) _) | (with_reducible refine Fr.alloc ?_ _))), (by repeat (first | with_reducible exact F2 | (with_reducible refine Fr.put ?_ (by first | omega | (simp; done) | (simp <;> omega)) _) | (with_reducible refine Fr.alloc ?_ _))), (by repeat (first | with_reducible exact F3 | (with_reducible refine Fr.put ?_ (by first | omega | (simp; done) | (simp <;> omega)) _) | (with_reducible refine Fr.alloc ?_ _))), Lib.hid (by unfold SepTab; simp <;> omega), by repeat (first | with_reducible exact Below.refl _ _ | (with_reducible exact HB.out) | (with_reducible refine Below.setCell ?_ (by first | omega | (simp; done) | (simp <;> omega)) _) | (with_reducible refine Below.alloc ?_ (by first | omega | (simp; done) | (simp <;> omega)) _) | (refine Below.alloc ?_ (by first | omega | (simp; done) | (simp <;> omega)) _) | (refine Below.setCell ?_ (by first | omega | (simp; done) | (simp <;> omega)) _))⟩

set_option maxHeartbeats 16000000 in
theorem spec_OpenTab (a0 : TSite) (l1 : List TNode) (A1 : Option Addr) (n1 c1 lo1 hi1 : Nat) (l2 : List Int) (A2 : Option Addr) (n2 c2 lo2 hi2 : Nat) (w : World) (b0 : Hid (TSite.fit a0)) (h1 : n1 ≤ 1048576) (r1 : Rd w lo1 hi1 5 A1 n1 (cNode l1)) (k1 : n1 ≤ c1) (b1 : Hid (cNodeOk l1)) (h2 : n2 ≤ 1048576) (r2 : Rd w lo2 hi2 1 A2 n2 (i64s l2)) (k2 : n2 ≤ c2) (b2 : Hid (I64s l2)) :
    Calls Try.prog 55 #[.agg #[.int .i64 a0.f0, .int .i64 a0.f1], .slice A1 n1 c1, .slice A2 n2 c2] w (MakesTabV (mOTs a0 l1 l2) (mOTb a0 l1 l2).length (mOTb a0 l1 l2) noEd.length noEd (mOTh a0 l1 l2).length (mOTh a0 l1 l2) (mOTc a0 l1 l2) (mOTk a0 l1 l2) w) := by
  have HL1 := rd_len TNode.len r1 (by decide)
  have HL2 : l2.length = n2 := by simpa [i64s] using r2.1
  have R1 := Lib.hid r1
  have R2 := Lib.hid r2
  clear r1 r2
  have HB := Lib.hid (Below.refl w.heap.size w)
  have KR := Lib.hid (show BoxAt ((w.alloc (.cells #[.int .i64 a0.f0, .int .i64 a0.f1] 84)).alloc (.cells #[.int .i64 0, .int .i64 0, .slice none 0 0, .slice none 0 0, .slice none 0 0, .int .i64 0] 86)) (w.heap.size + 1) 86 #[.int .i64 0, .int .i64 0, .slice none 0 0, .slice none 0 0, .slice none 0 0, .int .i64 0] from by simpa using box_new (w.alloc (.cells #[.int .i64 a0.f0, .int .i64 a0.f1] 84)) 86 #[.int .i64 0, .int .i64 0, .slice none 0 0, .slice none 0 0, .slice none 0 0, .int .i64 0])
  have CC := Lib.hid (fun (W : World) (q1 : Rd W lo1 hi1 5 A1 n1 (cNode l1)) (q2 : Rd W lo2 hi2 1 A2 n2 (i64s l2)) => spec_l31Copy a0 l1 A1 n1 c1 lo1 hi1 [] none 0 0 0 0 l2 A2 n2 c2 lo2 hi2 (-1) W h1 q1 (Nat.zero_le _) Rd.empty h2 q2)
  have CI := fun (W : World) (A1 A2 A3 : Option Addr) (c1 lo1 hi1 c2 lo2 hi2 c3 lo3 hi3 : Nat) (q1 : Rd W lo1 hi1 5 A1 n1 (cNode l1)) (p1 : n1 ≤ c1) (q2 : Rd W lo2 hi2 6 A2 0 (cEdit [])) (p2 : 0 ≤ c2) (q3 : Rd W lo3 hi3 1 A3 n2 (i64s l2)) (p3 : n2 ≤ c3) => spec_IsTab a0 l1 A1 n1 c1 lo1 hi1 [] A2 0 c2 lo2 hi2 l2 A3 n2 c3 lo3 hi3 (-1) W b0 h1 q1 p1 b1 (Nat.zero_le _) q2 p2 (Lib.hid (fun _ h => by cases h)) h2 q3 p3 b2
  rw [show mIsTab a0 l1 [] l2 (-1) = mOTk a0 l1 l2 from rfl] at CI
  cases hq : mOTk a0 l1 l2 with
  | false =>
    rw [hq] at CI
    replace CI := Lib.hid CI
    obtain ⟨e1, e2, e3, e4⟩ := mOT_no hq
    rw [e1, e2, e3, e4]
    clear hq e1 e2 e3 e4
    go_enter Try.func55, Try.ntmps55
    go_wp2_with fail
    refine Calls.mono (CC.out _ (R1.out.new (by repeat (first | with_reducible exact Below.refl _ _ | (with_reducible exact HB.out) | (with_reducible refine Below.setCell ?_ (by first | omega | (simp; done) | (simp <;> omega)) _) | (with_reducible refine Below.alloc ?_ (by first | omega | (simp; done) | (simp <;> omega)) _) | (refine Below.alloc ?_ (by first | omega | (simp; done) | (simp <;> omega)) _) | (refine Below.setCell ?_ (by first | omega | (simp; done) | (simp <;> omega)) _)))) (R2.out.new (by repeat (first | with_reducible exact Below.refl _ _ | (with_reducible exact HB.out) | (with_reducible refine Below.setCell ?_ (by first | omega | (simp; done) | (simp <;> omega)) _) | (with_reducible refine Below.alloc ?_ (by first | omega | (simp; done) | (simp <;> omega)) _) | (refine Below.alloc ?_ (by first | omega | (simp; done) | (simp <;> omega)) _) | (refine Below.setCell ?_ (by first | omega | (simp; done) | (simp <;> omega)) _))))) ?_
    rintro e w1 ⟨X1, X2, X3, d1, u1, v1, d2, u2, v2, d3, u3, v3, rfl, F1, F2, F3, hsep, hb⟩
    have hsep := hsep.out
    unfold SepTab at hsep
    simp only [World.size_alloc] at hsep
    replace KR := Lib.hid (KR.out.new hb)
    have hs1 := hb.size
    (try simp at hs1)
    replace HB := Lib.hid (show Below w.heap.size w w1 from Below.trans (by repeat (first | with_reducible exact Below.refl _ _ | (with_reducible exact HB.out) | (with_reducible refine Below.setCell ?_ (by first | omega | (simp; done) | (simp <;> omega)) _) | (with_reducible refine Below.alloc ?_ (by first | omega | (simp; done) | (simp <;> omega)) _) | (refine Below.alloc ?_ (by first | omega | (simp; done) | (simp <;> omega)) _) | (refine Below.setCell ?_ (by first | omega | (simp; done) | (simp <;> omega)) _))) (hb.mono (by first | omega | (simp; done) | (simp <;> omega))))
    have z1_0 : w.heap.size < w1.heap.size := by omega
    have z1_1 : w.heap.size + 1 < w1.heap.size := by omega
    clear hb
    have G1 := Lib.hid (F1.rd.alloc (.cells #[.int .i64 a0.f0, .int .i64 a0.f1, .slice X1 n1 d1, .slice X2 0 d2, .slice X3 n2 d3, .int .i64 (-1)] 86))
    have G2 := Lib.hid (F2.rd.alloc (.cells #[.int .i64 a0.f0, .int .i64 a0.f1, .slice X1 n1 d1, .slice X2 0 d2, .slice X3 n2 d3, .int .i64 (-1)] 86))
    have G3 := Lib.hid (F3.rd.alloc (.cells #[.int .i64 a0.f0, .int .i64 a0.f1, .slice X1 n1 d1, .slice X2 0 d2, .slice X3 n2 d3, .int .i64 (-1)] 86))
    have KT := Lib.hid (box_new w1 86 #[.int .i64 a0.f0, .int .i64 a0.f1, .slice X1 n1 d1, .slice X2 0 d2, .slice X3 n2 d3, .int .i64 (-1)])
    have FC1 := F1.cap
    have FC3 := F3.cap
    replace KR := Lib.hid (KR.out.alloc_ (.cells #[.int .i64 a0.f0, .int .i64 a0.f1, .slice X1 n1 d1, .slice X2 0 d2, .slice X3 n2 d3, .int .i64 (-1)] 86))
    replace F1 := Lib.hid (F1.alloc (.cells #[.int .i64 a0.f0, .int .i64 a0.f1, .slice X1 n1 d1, .slice X2 0 d2, .slice X3 n2 d3, .int .i64 (-1)] 86))
    replace F2 := Lib.hid (F2.alloc (.cells #[.int .i64 a0.f0, .int .i64 a0.f1, .slice X1 n1 d1, .slice X2 0 d2, .slice X3 n2 d3, .int .i64 (-1)] 86))
    replace F3 := Lib.hid (F3.alloc (.cells #[.int .i64 a0.f0, .int .i64 a0.f1, .slice X1 n1 d1, .slice X2 0 d2, .slice X3 n2 d3, .int .i64 (-1)] 86))
    go_wp2_with fail
    refine Calls.mono (CI.out _ _ _ _ _ _ _ _ _ _ _ _ _ G1.out FC1 G2.out (Nat.zero_le _) G3.out FC3) ?_
    rintro e w2 ⟨rfl, hb⟩
    replace KR := Lib.hid (KR.out.new hb)
    replace KT := Lib.hid (KT.out.new hb)
    replace F1 := Lib.hid (F1.out.new hb)
    replace F2 := Lib.hid (F2.out.new hb)
    replace F3 := Lib.hid (F3.out.new hb)
    have hs2 := hb.size
    (try simp at hs2)
    replace HB := Lib.hid (show Below w.heap.size w w2 from Below.trans (by repeat (first | with_reducible exact Below.refl _ _ | (with_reducible exact HB.out) | (with_reducible refine Below.setCell ?_ (by first | omega | (simp; done) | (simp <;> omega)) _) | (with_reducible refine Below.alloc ?_ (by first | omega | (simp; done) | (simp <;> omega)) _) | (refine Below.alloc ?_ (by first | omega | (simp; done) | (simp <;> omega)) _) | (refine Below.setCell ?_ (by first | omega | (simp; done) | (simp <;> omega)) _))) (hb.mono (by first | omega | (simp; done) | (simp <;> omega))))
    have z2_0 : w.heap.size < w2.heap.size := by omega
    have z2_1 : w.heap.size + 1 < w2.heap.size := by omega
    clear hb
    have q0 := KR.out.at_ (j := 0) rfl
    have q1 := KR.out.at_ (j := 1) rfl
    have q2 := KR.out.at_ (j := 2) rfl
    have q3 := KR.out.at_ (j := 3) rfl
    have q4 := KR.out.at_ (j := 4) rfl
    have q5 := KR.out.at_ (j := 5) rfl
    have qf := fun j => KR.out.free j
    go_wp2_with fail
    have KF := (box_put (box_put (box_put (box_put (box_put (box_put KR.out 0 (.int .i64 0)) 1 (.int .i64 0)) 2 (.slice none 0 0)) 3 (.slice none 0 0)) 4 (.slice none 0 0)) 5 (.int .i64 0))
    have f0 := KF.at_ (j := 0) rfl
    have f1 := KF.at_ (j := 1) rfl
    have f2 := KF.at_ (j := 2) rfl
    have f3 := KF.at_ (j := 3) rfl
    have f4 := KF.at_ (j := 4) rfl
    have f5 := KF.at_ (j := 5) rfl
    exact bodyPost_ret (v := .tuple #[.agg #[.int .i64 0, .int .i64 0, .slice none 0 0, .slice none 0 0, .slice none 0 0, .int .i64 0], .bool false]) (by simp [results, Try.results55, go_sem, f0, f1, f2, f3, f4, f5]) rfl
      ⟨none, none, none, 0, w.heap.size, w.heap.size, 0, w.heap.size, w.heap.size, 0, w.heap.size, w.heap.size, rfl, fr_none, fr_none, fr_none, Lib.hid (by unfold SepTab; simp <;> omega), by repeat (first | with_reducible exact Below.refl _ _ | (with_reducible exact HB.out) | (with_reducible refine Below.setCell ?_ (by first | omega | (simp; done) | (simp <;> omega)) _) | (with_reducible refine Below.alloc ?_ (by first | omega | (simp; done) | (simp <;> omega)) _) | (refine Below.alloc ?_ (by first | omega | (simp; done) | (simp <;> omega)) _) | (refine Below.setCell ?_ (by first | omega | (simp; done) | (simp <;> omega)) _))⟩
  | true =>
    rw [hq] at CI
    replace CI := Lib.hid CI
    obtain ⟨e1, e2, e3, e4⟩ := mOT_yes hq
    rw [e1, e2, e3, e4, HL1, HL2]
    clear hq e1 e2 e3 e4
    go_enter Try.func55, Try.ntmps55
    go_wp2_with fail
    refine Calls.mono (CC.out _ (R1.out.new (by repeat (first | with_reducible exact Below.refl _ _ | (with_reducible exact HB.out) | (with_reducible refine Below.setCell ?_ (by first | omega | (simp; done) | (simp <;> omega)) _) | (with_reducible refine Below.alloc ?_ (by first | omega | (simp; done) | (simp <;> omega)) _) | (refine Below.alloc ?_ (by first | omega | (simp; done) | (simp <;> omega)) _) | (refine Below.setCell ?_ (by first | omega | (simp; done) | (simp <;> omega)) _)))) (R2.out.new (by repeat (first | with_reducible exact Below.refl _ _ | (with_reducible exact HB.out) | (with_reducible refine Below.setCell ?_ (by first | omega | (simp; done) | (simp <;> omega)) _) | (with_reducible refine Below.alloc ?_ (by first | omega | (simp; done) | (simp <;> omega)) _) | (refine Below.alloc ?_ (by first | omega | (simp; done) | (simp <;> omega)) _) | (refine Below.setCell ?_ (by first | omega | (simp; done) | (simp <;> omega)) _))))) ?_
    rintro e w1 ⟨X1, X2, X3, d1, u1, v1, d2, u2, v2, d3, u3, v3, rfl, F1, F2, F3, hsep, hb⟩
    have hsep := hsep.out
    unfold SepTab at hsep
    simp only [World.size_alloc] at hsep
    replace KR := Lib.hid (KR.out.new hb)
    have hs1 := hb.size
    (try simp at hs1)
    replace HB := Lib.hid (show Below w.heap.size w w1 from Below.trans (by repeat (first | with_reducible exact Below.refl _ _ | (with_reducible exact HB.out) | (with_reducible refine Below.setCell ?_ (by first | omega | (simp; done) | (simp <;> omega)) _) | (with_reducible refine Below.alloc ?_ (by first | omega | (simp; done) | (simp <;> omega)) _) | (refine Below.alloc ?_ (by first | omega | (simp; done) | (simp <;> omega)) _) | (refine Below.setCell ?_ (by first | omega | (simp; done) | (simp <;> omega)) _))) (hb.mono (by first | omega | (simp; done) | (simp <;> omega))))
    have z1_0 : w.heap.size < w1.heap.size := by omega
    have z1_1 : w.heap.size + 1 < w1.heap.size := by omega
    clear hb
    have G1 := Lib.hid (F1.rd.alloc (.cells #[.int .i64 a0.f0, .int .i64 a0.f1, .slice X1 n1 d1, .slice X2 0 d2, .slice X3 n2 d3, .int .i64 (-1)] 86))
    have G2 := Lib.hid (F2.rd.alloc (.cells #[.int .i64 a0.f0, .int .i64 a0.f1, .slice X1 n1 d1, .slice X2 0 d2, .slice X3 n2 d3, .int .i64 (-1)] 86))
    have G3 := Lib.hid (F3.rd.alloc (.cells #[.int .i64 a0.f0, .int .i64 a0.f1, .slice X1 n1 d1, .slice X2 0 d2, .slice X3 n2 d3, .int .i64 (-1)] 86))
    have KT := Lib.hid (box_new w1 86 #[.int .i64 a0.f0, .int .i64 a0.f1, .slice X1 n1 d1, .slice X2 0 d2, .slice X3 n2 d3, .int .i64 (-1)])
    have FC1 := F1.cap
    have FC3 := F3.cap
    replace KR := Lib.hid (KR.out.alloc_ (.cells #[.int .i64 a0.f0, .int .i64 a0.f1, .slice X1 n1 d1, .slice X2 0 d2, .slice X3 n2 d3, .int .i64 (-1)] 86))
    replace F1 := Lib.hid (F1.alloc (.cells #[.int .i64 a0.f0, .int .i64 a0.f1, .slice X1 n1 d1, .slice X2 0 d2, .slice X3 n2 d3, .int .i64 (-1)] 86))
    replace F2 := Lib.hid (F2.alloc (.cells #[.int .i64 a0.f0, .int .i64 a0.f1, .slice X1 n1 d1, .slice X2 0 d2, .slice X3 n2 d3, .int .i64 (-1)] 86))
    replace F3 := Lib.hid (F3.alloc (.cells #[.int .i64 a0.f0, .int .i64 a0.f1, .slice X1 n1 d1, .slice X2 0 d2, .slice X3 n2 d3, .int .i64 (-1)] 86))
    go_wp2_with fail
    refine Calls.mono (CI.out _ _ _ _ _ _ _ _ _ _ _ _ _ G1.out FC1 G2.out (Nat.zero_le _) G3.out FC3) ?_
    rintro e w2 ⟨rfl, hb⟩
    replace KR := Lib.hid (KR.out.new hb)
    replace KT := Lib.hid (KT.out.new hb)
    replace F1 := Lib.hid (F1.out.new hb)
    replace F2 := Lib.hid (F2.out.new hb)
    replace F3 := Lib.hid (F3.out.new hb)
    have hs2 := hb.size
    (try simp at hs2)
    replace HB := Lib.hid (show Below w.heap.size w w2 from Below.trans (by repeat (first | with_reducible exact Below.refl _ _ | (with_reducible exact HB.out) | (with_reducible refine Below.setCell ?_ (by first | omega | (simp; done) | (simp <;> omega)) _) | (with_reducible refine Below.alloc ?_ (by first | omega | (simp; done) | (simp <;> omega)) _) | (refine Below.alloc ?_ (by first | omega | (simp; done) | (simp <;> omega)) _) | (refine Below.setCell ?_ (by first | omega | (simp; done) | (simp <;> omega)) _))) (hb.mono (by first | omega | (simp; done) | (simp <;> omega))))
    have z2_0 : w.heap.size < w2.heap.size := by omega
    have z2_1 : w.heap.size + 1 < w2.heap.size := by omega
    clear hb
    replace F2 := Lib.hid (show Fr w2 u2 v2 107 6 X2 noEd.length d2 (cEdit noEd) from F2.out)
    have k0 := KT.out.at_ (j := 0) rfl
    have k1 := KT.out.at_ (j := 1) rfl
    have k2 := KT.out.at_ (j := 2) rfl
    have k3 := KT.out.at_ (j := 3) rfl
    have k4 := KT.out.at_ (j := 4) rfl
    have k5 := KT.out.at_ (j := 5) rfl
    have q0 := KR.out.at_ (j := 0) rfl
    have q1 := KR.out.at_ (j := 1) rfl
    have q2 := KR.out.at_ (j := 2) rfl
    have q3 := KR.out.at_ (j := 3) rfl
    have q4 := KR.out.at_ (j := 4) rfl
    have q5 := KR.out.at_ (j := 5) rfl
    have qf := fun j => KR.out.free j
    go_wp2_with fail
    have KF := (box_put (box_put (box_put (box_put (box_put (box_put KR.out 0 (.int .i64 a0.f0)) 1 (.int .i64 a0.f1)) 2 (.slice X1 n1 d1)) 3 (.slice X2 0 d2)) 4 (.slice X3 n2 d3)) 5 (.int .i64 (-1)))
    have f0 := KF.at_ (j := 0) rfl
    have f1 := KF.at_ (j := 1) rfl
    have f2 := KF.at_ (j := 2) rfl
    have f3 := KF.at_ (j := 3) rfl
    have f4 := KF.at_ (j := 4) rfl
    have f5 := KF.at_ (j := 5) rfl
    exact bodyPost_ret (v := .tuple #[.agg #[.int .i64 a0.f0, .int .i64 a0.f1, .slice X1 n1 d1, .slice X2 0 d2, .slice X3 n2 d3, .int .i64 (-1)], .bool true]) (by simp [results, Try.results55, go_sem, f0, f1, f2, f3, f4, f5]) rfl
      ⟨X1, X2, X3, d1, u1, v1, d2, u2, v2, d3, u3, v3, rfl, (by repeat (first | with_reducible exact F1.out | (with_reducible refine Fr.put ?_ (by first | omega | (simp; done) | (simp <;> omega)) _) | (with_reducible refine Fr.alloc ?_ _))), (by repeat (first | with_reducible exact F2.out | (with_reducible refine Fr.put ?_ (by first | omega | (simp; done) | (simp <;> omega)) _) | (with_reducible refine Fr.alloc ?_ _))), (by repeat (first | with_reducible exact F3.out | (with_reducible refine Fr.put ?_ (by first | omega | (simp; done) | (simp <;> omega)) _) | (with_reducible refine Fr.alloc ?_ _))), Lib.hid (by unfold SepTab; simp <;> omega), by repeat (first | with_reducible exact Below.refl _ _ | (with_reducible exact HB.out) | (with_reducible refine Below.setCell ?_ (by first | omega | (simp; done) | (simp <;> omega)) _) | (with_reducible refine Below.alloc ?_ (by first | omega | (simp; done) | (simp <;> omega)) _) | (refine Below.alloc ?_ (by first | omega | (simp; done) | (simp <;> omega)) _) | (refine Below.setCell ?_ (by first | omega | (simp; done) | (simp <;> omega)) _))⟩
end Go.Proofs.Ytoclpdbgmpdbmaa
