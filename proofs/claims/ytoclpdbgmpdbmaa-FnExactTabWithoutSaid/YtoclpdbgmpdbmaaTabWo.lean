/- TabWithout, of the program and of the model. -/
import Derived.Test.YtoclpdbgmpdbmaaTabCl
import Derived.Test.YtoclpdbgmpdbmaaECWithoutBy
import Derived.Test.YtoclpdbgmpdbmaaESWithoutBy
namespace Go.Proofs.Ytoclpdbgmpdbmaa
open Go Go.ChangeShapes Go.WideShapes Go.ChangeAt Go.RowKit Go.Lib
set_option linter.unusedVariables false
set_option linter.unusedSimpArgs false
set_option maxRecDepth 100000
def mWo (l : List TEdit) (a : Int) : List TEdit := l.filter fun x => x.f5 != a
theorem mWo_len (l : List TEdit) (a : Int) : (mWo l a).length ≤ l.length := List.length_filter_le _ _

set_option maxHeartbeats 16000000 in
theorem impl_TabWithout (s0 : TSite) (l1 : List TNode) (A1 : Option Addr) (n1 c1 lo1 hi1 : Nat) (l2 : List TEdit) (A2 : Option Addr) (n2 c2 lo2 hi2 : Nat) (l3 : List Int) (A3 : Option Addr) (n3 c3 lo3 hi3 : Nat) (p4 a : Int) (w : World) (b0 : Hid (TSite.fit s0)) (h1 : n1 ≤ 1048576) (r1 : Rd w lo1 hi1 5 A1 n1 (cNode l1)) (b1 : Hid (cNodeOk l1)) (h2 : n2 ≤ 1048576) (r2 : Rd w lo2 hi2 6 A2 n2 (cEdit l2)) (b2 : Hid (cEditOk l2)) (h3 : n3 ≤ 1048576) (r3 : Rd w lo3 hi3 1 A3 n3 (i64s l3)) (b3 : Hid (I64s l3)) (wf : (Lit.int .i64 a).wf = true) :
    Calls Try.prog 65 #[.agg #[.int .i64 s0.f0, .int .i64 s0.f1, .slice A1 n1 c1, .slice A2 n2 c2, .slice A3 n3 c3, .int .i64 p4], .int .i64 a] w (MakesTab s0 l1.length l1 (mWo l2 a).length (mWo l2 a) l3.length l3 p4 w) := by
  have HL1 := rd_len TNode.len r1 (by decide)
  have HL3 : l3.length = n3 := by simpa [i64s] using r3.1
  have R1 := Lib.hid r1
  have R2 := Lib.hid r2
  have R3 := Lib.hid r3
  clear r1 r2 r3
  have HB := Lib.hid (Below.refl w.heap.size w)
  have KP := Lib.hid (show BoxAt ((w.alloc (.cells #[.int .i64 s0.f0, .int .i64 s0.f1, .slice A1 n1 c1, .slice A2 n2 c2, .slice A3 n3 c3, .int .i64 p4] 86)).alloc (.cells #[.int .i64 0, .int .i64 0, .slice none 0 0, .slice none 0 0, .slice none 0 0, .int .i64 0] 86)) w.heap.size 86 #[.int .i64 s0.f0, .int .i64 s0.f1, .slice A1 n1 c1, .slice A2 n2 c2, .slice A3 n3 c3, .int .i64 p4] from (box_new w _ _).alloc_ _)
  have KR := Lib.hid (show BoxAt ((w.alloc (.cells #[.int .i64 s0.f0, .int .i64 s0.f1, .slice A1 n1 c1, .slice A2 n2 c2, .slice A3 n3 c3, .int .i64 p4] 86)).alloc (.cells #[.int .i64 0, .int .i64 0, .slice none 0 0, .slice none 0 0, .slice none 0 0, .int .i64 0] 86)) (w.heap.size + 1) 86 #[.int .i64 0, .int .i64 0, .slice none 0 0, .slice none 0 0, .slice none 0 0, .int .i64 0] from by simpa using box_new (w.alloc (.cells #[.int .i64 s0.f0, .int .i64 s0.f1, .slice A1 n1 c1, .slice A2 n2 c2, .slice A3 n3 c3, .int .i64 p4] 86)) 86 #[.int .i64 0, .int .i64 0, .slice none 0 0, .slice none 0 0, .slice none 0 0, .int .i64 0])
  have CW := Lib.hid (fun (W : World) (q : Rd W lo2 hi2 6 A2 n2 (cEdit l2)) => impl_WithoutBy l2 A2 n2 c2 lo2 hi2 a W h2 q b2 wf)
  rw [HL1, HL3]
  rw [show (l2.filter fun x => x.f5 != a) = mWo l2 a from rfl] at CW
  generalize mWo l2 a = lf at CW ⊢
  go_enter Try.func65, Try.ntmps65
  go_wp2_with fail
  refine Calls.mono (clone_Tab s0 l1 A1 n1 c1 lo1 hi1 l2 A2 n2 c2 lo2 hi2 l3 A3 n3 c3 lo3 hi3 p4 _ h1 (R1.out.new (by repeat (first | with_reducible exact Below.refl _ _ | (with_reducible exact HB.out) | (with_reducible refine Below.setCell ?_ (by first | omega | (simp; done) | (simp <;> omega)) _) | (with_reducible refine Below.alloc ?_ (by first | omega | (simp; done) | (simp <;> omega)) _) | (refine Below.alloc ?_ (by first | omega | (simp; done) | (simp <;> omega)) _) | (refine Below.setCell ?_ (by first | omega | (simp; done) | (simp <;> omega)) _)))) h2 (R2.out.new (by repeat (first | with_reducible exact Below.refl _ _ | (with_reducible exact HB.out) | (with_reducible refine Below.setCell ?_ (by first | omega | (simp; done) | (simp <;> omega)) _) | (with_reducible refine Below.alloc ?_ (by first | omega | (simp; done) | (simp <;> omega)) _) | (refine Below.alloc ?_ (by first | omega | (simp; done) | (simp <;> omega)) _) | (refine Below.setCell ?_ (by first | omega | (simp; done) | (simp <;> omega)) _)))) h3 (R3.out.new (by repeat (first | with_reducible exact Below.refl _ _ | (with_reducible exact HB.out) | (with_reducible refine Below.setCell ?_ (by first | omega | (simp; done) | (simp <;> omega)) _) | (with_reducible refine Below.alloc ?_ (by first | omega | (simp; done) | (simp <;> omega)) _) | (refine Below.alloc ?_ (by first | omega | (simp; done) | (simp <;> omega)) _) | (refine Below.setCell ?_ (by first | omega | (simp; done) | (simp <;> omega)) _))))) ?_
  rintro e w1 ⟨X1, X2, X3, d1, u1, v1, d2, u2, v2, d3, u3, v3, rfl, F1, F2, F3, hsep, hb⟩
  have hsep := hsep.out
  unfold SepTab at hsep
  simp only [World.size_alloc] at hsep
  replace KP := Lib.hid ((KP.out.new hb).alloc_ (.cells #[.int .i64 s0.f0, .int .i64 s0.f1, .slice X1 n1 d1, .slice X2 n2 d2, .slice X3 n3 d3, .int .i64 p4] 86))
  replace KR := Lib.hid ((KR.out.new hb).alloc_ (.cells #[.int .i64 s0.f0, .int .i64 s0.f1, .slice X1 n1 d1, .slice X2 n2 d2, .slice X3 n3 d3, .int .i64 p4] 86))
  obtain ⟨g, hg⟩ : ∃ g, g = w1.heap.size := ⟨_, rfl⟩
  have KT := Lib.hid (show BoxAt (w1.alloc (.cells #[.int .i64 s0.f0, .int .i64 s0.f1, .slice X1 n1 d1, .slice X2 n2 d2, .slice X3 n3 d3, .int .i64 p4] 86)) g 86 #[.int .i64 s0.f0, .int .i64 s0.f1, .slice X1 n1 d1, .slice X2 n2 d2, .slice X3 n3 d3, .int .i64 p4] from hg ▸ box_new w1 86 #[.int .i64 s0.f0, .int .i64 s0.f1, .slice X1 n1 d1, .slice X2 n2 d2, .slice X3 n3 d3, .int .i64 p4])
  replace F1 := Lib.hid (F1.alloc (.cells #[.int .i64 s0.f0, .int .i64 s0.f1, .slice X1 n1 d1, .slice X2 n2 d2, .slice X3 n3 d3, .int .i64 p4] 86))
  replace F3 := Lib.hid (F3.alloc (.cells #[.int .i64 s0.f0, .int .i64 s0.f1, .slice X1 n1 d1, .slice X2 n2 d2, .slice X3 n3 d3, .int .i64 p4] 86))
  have hs1 := hb.size
  (try simp at hs1)
  have HG : g < w1.heap.size + 1 := by omega
  replace HB := Lib.hid (show Below w.heap.size w w1 from Below.trans (by repeat (first | with_reducible exact Below.refl _ _ | (with_reducible exact HB.out) | (with_reducible refine Below.setCell ?_ (by first | omega | (simp; done) | (simp <;> omega)) _) | (with_reducible refine Below.alloc ?_ (by first | omega | (simp; done) | (simp <;> omega)) _) | (refine Below.alloc ?_ (by first | omega | (simp; done) | (simp <;> omega)) _) | (refine Below.setCell ?_ (by first | omega | (simp; done) | (simp <;> omega)) _))) (hb.mono (by first | omega | (simp; done) | (simp <;> omega))))
  have z1_0 : w.heap.size < w1.heap.size := by omega
  have z1_1 : w.heap.size + 1 < w1.heap.size := by omega
  clear hb
  have k0 := KP.out.at_ (j := 0) rfl
  have k1 := KP.out.at_ (j := 1) rfl
  have k2 := KP.out.at_ (j := 2) rfl
  have k3 := KP.out.at_ (j := 3) rfl
  have k4 := KP.out.at_ (j := 4) rfl
  have k5 := KP.out.at_ (j := 5) rfl
  go_wp2_with fail
  clear k0 k1 k2 k3 k4 k5
  refine Calls.mono (CW.out _ (R2.out.new (by repeat (first | with_reducible exact Below.refl _ _ | (with_reducible exact HB.out) | (with_reducible refine Below.setCell ?_ (by first | omega | (simp; done) | (simp <;> omega)) _) | (with_reducible refine Below.alloc ?_ (by first | omega | (simp; done) | (simp <;> omega)) _) | (refine Below.alloc ?_ (by first | omega | (simp; done) | (simp <;> omega)) _) | (refine Below.setCell ?_ (by first | omega | (simp; done) | (simp <;> omega)) _))))) ?_
  rintro e w2 ⟨Y2, e2, rfl, F4, hb⟩
  replace KP := Lib.hid (KP.out.new hb)
  replace KR := Lib.hid (KR.out.new hb)
  replace KT := Lib.hid (KT.out.new hb)
  replace F1 := Lib.hid (F1.out.new hb)
  replace F3 := Lib.hid (F3.out.new hb)
  have F2 := Lib.hid (F4.mono (lo' := w1.heap.size + 1) (by simp) (Nat.le_refl _))
  clear F4
  have hs2 := hb.size
  (try simp at hs2)
  replace HB := Lib.hid (show Below w.heap.size w w2 from Below.trans (by repeat (first | with_reducible exact Below.refl _ _ | (with_reducible exact HB.out) | (with_reducible refine Below.setCell ?_ (by first | omega | (simp; done) | (simp <;> omega)) _) | (with_reducible refine Below.alloc ?_ (by first | omega | (simp; done) | (simp <;> omega)) _) | (refine Below.alloc ?_ (by first | omega | (simp; done) | (simp <;> omega)) _) | (refine Below.setCell ?_ (by first | omega | (simp; done) | (simp <;> omega)) _))) (hb.mono (by first | omega | (simp; done) | (simp <;> omega))))
  have z2_0 : w.heap.size < w2.heap.size := by omega
  have z2_1 : w.heap.size + 1 < w2.heap.size := by omega
  clear hb
  have k0 := KT.out.at_ (j := 0) rfl
  have q0 := KR.out.at_ (j := 0) rfl
  have k1 := KT.out.at_ (j := 1) rfl
  have q1 := KR.out.at_ (j := 1) rfl
  have k2 := KT.out.at_ (j := 2) rfl
  have q2 := KR.out.at_ (j := 2) rfl
  have k3 := KT.out.at_ (j := 3) rfl
  have q3 := KR.out.at_ (j := 3) rfl
  have k4 := KT.out.at_ (j := 4) rfl
  have q4 := KR.out.at_ (j := 4) rfl
  have k5 := KT.out.at_ (j := 5) rfl
  have q5 := KR.out.at_ (j := 5) rfl
  have kf := fun j => KT.out.free j
  have qf := fun j => KR.out.free j
  subst hg
  go_wp2_with fail
  have KF := (box_put (box_put (box_put (box_put (box_put (box_put (box_past (p := ⟨w1.heap.size, 3, none⟩) (v := .slice Y2 lf.length e2) KR.out (by simp; omega)) 0 (.int .i64 s0.f0)) 1 (.int .i64 s0.f1)) 2 (.slice X1 n1 d1)) 3 (.slice Y2 lf.length e2)) 4 (.slice X3 n3 d3)) 5 (.int .i64 p4))
  have f0 := KF.at_ (j := 0) rfl
  have f1 := KF.at_ (j := 1) rfl
  have f2 := KF.at_ (j := 2) rfl
  have f3 := KF.at_ (j := 3) rfl
  have f4 := KF.at_ (j := 4) rfl
  have f5 := KF.at_ (j := 5) rfl
  exact bodyPost_ret (v := .agg #[.int .i64 s0.f0, .int .i64 s0.f1, .slice X1 n1 d1, .slice Y2 lf.length e2, .slice X3 n3 d3, .int .i64 p4]) (by simp [results, Try.results65, go_sem, f0, f1, f2, f3, f4, f5]) rfl
    ⟨X1, Y2, X3, d1, u1, v1, e2, w1.heap.size + 1, w2.heap.size, d3, u3, v3, rfl, (by repeat (first | with_reducible exact F1.out | (with_reducible refine Fr.put ?_ (by first | omega | (simp; done) | (simp <;> omega)) _) | (with_reducible refine Fr.alloc ?_ _))), (by repeat (first | with_reducible exact F2.out | (with_reducible refine Fr.put ?_ (by first | omega | (simp; done) | (simp <;> omega)) _) | (with_reducible refine Fr.alloc ?_ _))), (by repeat (first | with_reducible exact F3.out | (with_reducible refine Fr.put ?_ (by first | omega | (simp; done) | (simp <;> omega)) _) | (with_reducible refine Fr.alloc ?_ _))), Lib.hid (by unfold SepTab; simp <;> omega), by repeat (first | with_reducible exact Below.refl _ _ | (with_reducible exact HB.out) | (with_reducible refine Below.setCell ?_ (by first | omega | (simp; done) | (simp <;> omega)) _) | (with_reducible refine Below.alloc ?_ (by first | omega | (simp; done) | (simp <;> omega)) _) | (refine Below.alloc ?_ (by first | omega | (simp; done) | (simp <;> omega)) _) | (refine Below.setCell ?_ (by first | omega | (simp; done) | (simp <;> omega)) _))⟩

set_option maxHeartbeats 16000000 in
theorem spec_TabWithout (s0 : TSite) (l1 : List TNode) (A1 : Option Addr) (n1 c1 lo1 hi1 : Nat) (l2 : List TEdit) (A2 : Option Addr) (n2 c2 lo2 hi2 : Nat) (l3 : List Int) (A3 : Option Addr) (n3 c3 lo3 hi3 : Nat) (p4 a : Int) (w : World) (b0 : Hid (TSite.fit s0)) (h1 : n1 ≤ 1048576) (r1 : Rd w lo1 hi1 5 A1 n1 (cNode l1)) (b1 : Hid (cNodeOk l1)) (h2 : n2 ≤ 1048576) (r2 : Rd w lo2 hi2 6 A2 n2 (cEdit l2)) (b2 : Hid (cEditOk l2)) (h3 : n3 ≤ 1048576) (r3 : Rd w lo3 hi3 1 A3 n3 (i64s l3)) (b3 : Hid (I64s l3)) (wf : (Lit.int .i64 a).wf = true) :
    Calls Try.prog 63 #[.agg #[.int .i64 s0.f0, .int .i64 s0.f1, .slice A1 n1 c1, .slice A2 n2 c2, .slice A3 n3 c3, .int .i64 p4], .int .i64 a] w (MakesTab s0 l1.length l1 (mWo l2 a).length (mWo l2 a) l3.length l3 p4 w) := by
  have HL1 := rd_len TNode.len r1 (by decide)
  have HL3 : l3.length = n3 := by simpa [i64s] using r3.1
  have R1 := Lib.hid r1
  have R2 := Lib.hid r2
  have R3 := Lib.hid r3
  clear r1 r2 r3
  have HB := Lib.hid (Below.refl w.heap.size w)
  have KP := Lib.hid (show BoxAt ((w.alloc (.cells #[.int .i64 s0.f0, .int .i64 s0.f1, .slice A1 n1 c1, .slice A2 n2 c2, .slice A3 n3 c3, .int .i64 p4] 86)).alloc (.cells #[.int .i64 0, .int .i64 0, .slice none 0 0, .slice none 0 0, .slice none 0 0, .int .i64 0] 86)) w.heap.size 86 #[.int .i64 s0.f0, .int .i64 s0.f1, .slice A1 n1 c1, .slice A2 n2 c2, .slice A3 n3 c3, .int .i64 p4] from (box_new w _ _).alloc_ _)
  have KR := Lib.hid (show BoxAt ((w.alloc (.cells #[.int .i64 s0.f0, .int .i64 s0.f1, .slice A1 n1 c1, .slice A2 n2 c2, .slice A3 n3 c3, .int .i64 p4] 86)).alloc (.cells #[.int .i64 0, .int .i64 0, .slice none 0 0, .slice none 0 0, .slice none 0 0, .int .i64 0] 86)) (w.heap.size + 1) 86 #[.int .i64 0, .int .i64 0, .slice none 0 0, .slice none 0 0, .slice none 0 0, .int .i64 0] from by simpa using box_new (w.alloc (.cells #[.int .i64 s0.f0, .int .i64 s0.f1, .slice A1 n1 c1, .slice A2 n2 c2, .slice A3 n3 c3, .int .i64 p4] 86)) 86 #[.int .i64 0, .int .i64 0, .slice none 0 0, .slice none 0 0, .slice none 0 0, .int .i64 0])
  have CW := Lib.hid (fun (W : World) (q : Rd W lo2 hi2 6 A2 n2 (cEdit l2)) => spec_WithoutBy l2 A2 n2 c2 lo2 hi2 a W h2 q b2 wf)
  rw [HL1, HL3]
  rw [show (l2.filter fun x => x.f5 != a) = mWo l2 a from rfl] at CW
  generalize mWo l2 a = lf at CW ⊢
  go_enter Try.func63, Try.ntmps63
  go_wp2_with fail
  refine Calls.mono (spec_l31Copy s0 l1 A1 n1 c1 lo1 hi1 l2 A2 n2 c2 lo2 hi2 l3 A3 n3 c3 lo3 hi3 p4 _ h1 (R1.out.new (by repeat (first | with_reducible exact Below.refl _ _ | (with_reducible exact HB.out) | (with_reducible refine Below.setCell ?_ (by first | omega | (simp; done) | (simp <;> omega)) _) | (with_reducible refine Below.alloc ?_ (by first | omega | (simp; done) | (simp <;> omega)) _) | (refine Below.alloc ?_ (by first | omega | (simp; done) | (simp <;> omega)) _) | (refine Below.setCell ?_ (by first | omega | (simp; done) | (simp <;> omega)) _)))) h2 (R2.out.new (by repeat (first | with_reducible exact Below.refl _ _ | (with_reducible exact HB.out) | (with_reducible refine Below.setCell ?_ (by first | omega | (simp; done) | (simp <;> omega)) _) | (with_reducible refine Below.alloc ?_ (by first | omega | (simp; done) | (simp <;> omega)) _) | (refine Below.alloc ?_ (by first | omega | (simp; done) | (simp <;> omega)) _) | (refine Below.setCell ?_ (by first | omega | (simp; done) | (simp <;> omega)) _)))) h3 (R3.out.new (by repeat (first | with_reducible exact Below.refl _ _ | (with_reducible exact HB.out) | (with_reducible refine Below.setCell ?_ (by first | omega | (simp; done) | (simp <;> omega)) _) | (with_reducible refine Below.alloc ?_ (by first | omega | (simp; done) | (simp <;> omega)) _) | (refine Below.alloc ?_ (by first | omega | (simp; done) | (simp <;> omega)) _) | (refine Below.setCell ?_ (by first | omega | (simp; done) | (simp <;> omega)) _))))) ?_
  rintro e w1 ⟨X1, X2, X3, d1, u1, v1, d2, u2, v2, d3, u3, v3, rfl, F1, F2, F3, hsep, hb⟩
  have hsep := hsep.out
  unfold SepTab at hsep
  simp only [World.size_alloc] at hsep
  replace KP := Lib.hid ((KP.out.new hb).alloc_ (.cells #[.int .i64 s0.f0, .int .i64 s0.f1, .slice X1 n1 d1, .slice X2 n2 d2, .slice X3 n3 d3, .int .i64 p4] 86))
  replace KR := Lib.hid ((KR.out.new hb).alloc_ (.cells #[.int .i64 s0.f0, .int .i64 s0.f1, .slice X1 n1 d1, .slice X2 n2 d2, .slice X3 n3 d3, .int .i64 p4] 86))
  obtain ⟨g, hg⟩ : ∃ g, g = w1.heap.size := ⟨_, rfl⟩
  have KT := Lib.hid (show BoxAt (w1.alloc (.cells #[.int .i64 s0.f0, .int .i64 s0.f1, .slice X1 n1 d1, .slice X2 n2 d2, .slice X3 n3 d3, .int .i64 p4] 86)) g 86 #[.int .i64 s0.f0, .int .i64 s0.f1, .slice X1 n1 d1, .slice X2 n2 d2, .slice X3 n3 d3, .int .i64 p4] from hg ▸ box_new w1 86 #[.int .i64 s0.f0, .int .i64 s0.f1, .slice X1 n1 d1, .slice X2 n2 d2, .slice X3 n3 d3, .int .i64 p4])
  replace F1 := Lib.hid (F1.alloc (.cells #[.int .i64 s0.f0, .int .i64 s0.f1, .slice X1 n1 d1, .slice X2 n2 d2, .slice X3 n3 d3, .int .i64 p4] 86))
  replace F3 := Lib.hid (F3.alloc (.cells #[.int .i64 s0.f0, .int .i64 s0.f1, .slice X1 n1 d1, .slice X2 n2 d2, .slice X3 n3 d3, .int .i64 p4] 86))
  have hs1 := hb.size
  (try simp at hs1)
  have HG : g < w1.heap.size + 1 := by omega
  replace HB := Lib.hid (show Below w.heap.size w w1 from Below.trans (by repeat (first | with_reducible exact Below.refl _ _ | (with_reducible exact HB.out) | (with_reducible refine Below.setCell ?_ (by first | omega | (simp; done) | (simp <;> omega)) _) | (with_reducible refine Below.alloc ?_ (by first | omega | (simp; done) | (simp <;> omega)) _) | (refine Below.alloc ?_ (by first | omega | (simp; done) | (simp <;> omega)) _) | (refine Below.setCell ?_ (by first | omega | (simp; done) | (simp <;> omega)) _))) (hb.mono (by first | omega | (simp; done) | (simp <;> omega))))
  have z1_0 : w.heap.size < w1.heap.size := by omega
  have z1_1 : w.heap.size + 1 < w1.heap.size := by omega
  clear hb
  have k0 := KP.out.at_ (j := 0) rfl
  have k1 := KP.out.at_ (j := 1) rfl
  have k2 := KP.out.at_ (j := 2) rfl
  have k3 := KP.out.at_ (j := 3) rfl
  have k4 := KP.out.at_ (j := 4) rfl
  have k5 := KP.out.at_ (j := 5) rfl
  go_wp2_with fail
  clear k0 k1 k2 k3 k4 k5
  refine Calls.mono (CW.out _ (R2.out.new (by repeat (first | with_reducible exact Below.refl _ _ | (with_reducible exact HB.out) | (with_reducible refine Below.setCell ?_ (by first | omega | (simp; done) | (simp <;> omega)) _) | (with_reducible refine Below.alloc ?_ (by first | omega | (simp; done) | (simp <;> omega)) _) | (refine Below.alloc ?_ (by first | omega | (simp; done) | (simp <;> omega)) _) | (refine Below.setCell ?_ (by first | omega | (simp; done) | (simp <;> omega)) _))))) ?_
  rintro e w2 ⟨Y2, e2, rfl, F4, hb⟩
  replace KP := Lib.hid (KP.out.new hb)
  replace KR := Lib.hid (KR.out.new hb)
  replace KT := Lib.hid (KT.out.new hb)
  replace F1 := Lib.hid (F1.out.new hb)
  replace F3 := Lib.hid (F3.out.new hb)
  have F2 := Lib.hid (F4.mono (lo' := w1.heap.size + 1) (by simp) (Nat.le_refl _))
  clear F4
  have hs2 := hb.size
  (try simp at hs2)
  replace HB := Lib.hid (show Below w.heap.size w w2 from Below.trans (by repeat (first | with_reducible exact Below.refl _ _ | (with_reducible exact HB.out) | (with_reducible refine Below.setCell ?_ (by first | omega | (simp; done) | (simp <;> omega)) _) | (with_reducible refine Below.alloc ?_ (by first | omega | (simp; done) | (simp <;> omega)) _) | (refine Below.alloc ?_ (by first | omega | (simp; done) | (simp <;> omega)) _) | (refine Below.setCell ?_ (by first | omega | (simp; done) | (simp <;> omega)) _))) (hb.mono (by first | omega | (simp; done) | (simp <;> omega))))
  have z2_0 : w.heap.size < w2.heap.size := by omega
  have z2_1 : w.heap.size + 1 < w2.heap.size := by omega
  clear hb
  have k0 := KT.out.at_ (j := 0) rfl
  have q0 := KR.out.at_ (j := 0) rfl
  have k1 := KT.out.at_ (j := 1) rfl
  have q1 := KR.out.at_ (j := 1) rfl
  have k2 := KT.out.at_ (j := 2) rfl
  have q2 := KR.out.at_ (j := 2) rfl
  have k3 := KT.out.at_ (j := 3) rfl
  have q3 := KR.out.at_ (j := 3) rfl
  have k4 := KT.out.at_ (j := 4) rfl
  have q4 := KR.out.at_ (j := 4) rfl
  have k5 := KT.out.at_ (j := 5) rfl
  have q5 := KR.out.at_ (j := 5) rfl
  have kf := fun j => KT.out.free j
  have qf := fun j => KR.out.free j
  subst hg
  go_wp2_with fail
  have KF := (box_put (box_put (box_put (box_put (box_put (box_put (box_past (p := ⟨w1.heap.size, 3, none⟩) (v := .slice Y2 lf.length e2) KR.out (by simp; omega)) 0 (.int .i64 s0.f0)) 1 (.int .i64 s0.f1)) 2 (.slice X1 n1 d1)) 3 (.slice Y2 lf.length e2)) 4 (.slice X3 n3 d3)) 5 (.int .i64 p4))
  have f0 := KF.at_ (j := 0) rfl
  have f1 := KF.at_ (j := 1) rfl
  have f2 := KF.at_ (j := 2) rfl
  have f3 := KF.at_ (j := 3) rfl
  have f4 := KF.at_ (j := 4) rfl
  have f5 := KF.at_ (j := 5) rfl
  exact bodyPost_ret (v := .agg #[.int .i64 s0.f0, .int .i64 s0.f1, .slice X1 n1 d1, .slice Y2 lf.length e2, .slice X3 n3 d3, .int .i64 p4]) (by simp [results, Try.results63, go_sem, f0, f1, f2, f3, f4, f5]) rfl
    ⟨X1, Y2, X3, d1, u1, v1, e2, w1.heap.size + 1, w2.heap.size, d3, u3, v3, rfl, (by repeat (first | with_reducible exact F1.out | (with_reducible refine Fr.put ?_ (by first | omega | (simp; done) | (simp <;> omega)) _) | (with_reducible refine Fr.alloc ?_ _))), (by repeat (first | with_reducible exact F2.out | (with_reducible refine Fr.put ?_ (by first | omega | (simp; done) | (simp <;> omega)) _) | (with_reducible refine Fr.alloc ?_ _))), (by repeat (first | with_reducible exact F3.out | (with_reducible refine Fr.put ?_ (by first | omega | (simp; done) | (simp <;> omega)) _) | (with_reducible refine Fr.alloc ?_ _))), Lib.hid (by unfold SepTab; simp <;> omega), by repeat (first | with_reducible exact Below.refl _ _ | (with_reducible exact HB.out) | (with_reducible refine Below.setCell ?_ (by first | omega | (simp; done) | (simp <;> omega)) _) | (with_reducible refine Below.alloc ?_ (by first | omega | (simp; done) | (simp <;> omega)) _) | (refine Below.alloc ?_ (by first | omega | (simp; done) | (simp <;> omega)) _) | (refine Below.setCell ?_ (by first | omega | (simp; done) | (simp <;> omega)) _))⟩
end Go.Proofs.Ytoclpdbgmpdbmaa
