/- Copies of tabs, of the program and of the model. -/
import Derived.Test.YtoclpdbgmpdbmaaRTab
import Derived.Test.YtoclpdbgmpdbmaaCloneI
import Derived.Test.YtoclpdbgmpdbmaaENode
import Derived.Test.YtoclpdbgmpdbmaaEEdit
import Derived.Test.YtoclpdbgmpdbmaaApp0
import Derived.Test.YtoclpdbgmpdbmaaReg
import Derived.Deep.RegionHeld3
namespace Go.Proofs.Ytoclpdbgmpdbmaa
open Go Go.ChangeShapes Go.WideShapes Go.ChangeAt Go.RowKit Go.Lib
set_option linter.unusedVariables false
set_option linter.unusedSimpArgs false
set_option maxRecDepth 100000
theorem box_put {w : World} {g : Nat} {t : TypeId} {cs : Array Value} (h : BoxAt w g t cs) (j : Nat) (v : Value) : BoxAt (w.setCell ⟨g, j, none⟩ v) g t (cs.setIfInBounds j v) := by
  unfold BoxAt at h ⊢
  simp [World.setCell, Array.getElem?_modify, h]
theorem box_past {w : World} {g : Nat} {t : TypeId} {cs : Array Value} (h : BoxAt w g t cs) {p : Addr} {v : Value} (hp : p.block ≠ g) : BoxAt (w.setCell p v) g t cs :=
  (Below.heap_setCell w p v g (fun e => hp e.symm)).trans h
set_option maxHeartbeats 8000000 in
theorem clone_Tab (s0 : TSite) (l1 : List TNode) (A1 : Option Addr) (n1 c1 lo1 hi1 : Nat) (l2 : List TEdit) (A2 : Option Addr) (n2 c2 lo2 hi2 : Nat) (l3 : List Int) (A3 : Option Addr) (n3 c3 lo3 hi3 : Nat) (p4 : Int) (w : World) (h1 : n1 ≤ 1048576) (r1 : Rd w lo1 hi1 5 A1 n1 (cNode l1)) (h2 : n2 ≤ 1048576) (r2 : Rd w lo2 hi2 6 A2 n2 (cEdit l2)) (h3 : n3 ≤ 1048576) (r3 : Rd w lo3 hi3 1 A3 n3 (i64s l3)) :
    Calls Try.prog 105 #[.agg #[.int .i64 s0.f0, .int .i64 s0.f1, .slice A1 n1 c1, .slice A2 n2 c2, .slice A3 n3 c3, .int .i64 p4]] w (MakesTab s0 n1 l1 n2 l2 n3 l3 p4 w) := by
  have R1 := Lib.hid r1
  have R2 := Lib.hid r2
  have R3 := Lib.hid r3
  clear r1 r2 r3
  have HB := Lib.hid (Below.refl w.heap.size w)
  have KB := Lib.hid (show BoxAt ((w.alloc (.cells #[.int .i64 s0.f0, .int .i64 s0.f1, .slice A1 n1 c1, .slice A2 n2 c2, .slice A3 n3 c3, .int .i64 p4] 86)).alloc (.cells #[.int .i64 0, .int .i64 0, .slice none 0 0, .slice none 0 0, .slice none 0 0, .int .i64 0] 86)) w.heap.size 86 #[.int .i64 s0.f0, .int .i64 s0.f1, .slice A1 n1 c1, .slice A2 n2 c2, .slice A3 n3 c3, .int .i64 p4] from (box_new w _ _).alloc_ _)
  have KR := Lib.hid (show BoxAt ((w.alloc (.cells #[.int .i64 s0.f0, .int .i64 s0.f1, .slice A1 n1 c1, .slice A2 n2 c2, .slice A3 n3 c3, .int .i64 p4] 86)).alloc (.cells #[.int .i64 0, .int .i64 0, .slice none 0 0, .slice none 0 0, .slice none 0 0, .int .i64 0] 86)) (w.heap.size + 1) 86 #[.int .i64 0, .int .i64 0, .slice none 0 0, .slice none 0 0, .slice none 0 0, .int .i64 0] from by simpa using box_new (w.alloc (.cells #[.int .i64 s0.f0, .int .i64 s0.f1, .slice A1 n1 c1, .slice A2 n2 c2, .slice A3 n3 c3, .int .i64 p4] 86)) 86 #[.int .i64 0, .int .i64 0, .slice none 0 0, .slice none 0 0, .slice none 0 0, .int .i64 0])
  go_enter Try.func105, Try.ntmps105
  go_wp2_with fail
  refine Calls.mono (clone_Node l1 A1 n1 c1 lo1 hi1 _ (by omega) (R1.out.new (by repeat (first | with_reducible exact Below.refl _ _ | (with_reducible exact HB.out) | (with_reducible refine Below.setCell ?_ (by first | omega | (simp; done) | (simp <;> omega)) _) | (with_reducible refine Below.alloc ?_ (by first | omega | (simp; done) | (simp <;> omega)) _) | (refine Below.alloc ?_ (by first | omega | (simp; done) | (simp <;> omega)) _) | (refine Below.setCell ?_ (by first | omega | (simp; done) | (simp <;> omega)) _))))) ?_
  rintro e w1 ⟨v, rfl, ho, hb⟩
  obtain ⟨B1, d1, hv, F1⟩ := fr_of_own ho
  subst hv
  clear ho
  replace KR := Lib.hid (KR.out.new hb)
  replace KB := Lib.hid (KB.out.new hb)
  have hs1 := hb.size
  (try simp at hs1)
  replace HB := Lib.hid (show Below w.heap.size w w1 from Below.trans (by repeat (first | with_reducible exact Below.refl _ _ | (with_reducible exact HB.out) | (with_reducible refine Below.setCell ?_ (by first | omega | (simp; done) | (simp <;> omega)) _) | (with_reducible refine Below.alloc ?_ (by first | omega | (simp; done) | (simp <;> omega)) _) | (refine Below.alloc ?_ (by first | omega | (simp; done) | (simp <;> omega)) _) | (refine Below.setCell ?_ (by first | omega | (simp; done) | (simp <;> omega)) _))) (hb.mono (by first | omega | (simp; done) | (simp <;> omega))))
  have z1_0 : w.heap.size < w1.heap.size := by omega
  have z1_1 : w.heap.size + 1 < w1.heap.size := by omega
  clear hb
  replace F1 := Lib.hid (F1.mono (lo' := w.heap.size + 2) (by simp) (Nat.le_refl _))
  have k0 := KB.out.at_ (j := 0) rfl
  have k1 := KB.out.at_ (j := 1) rfl
  have k2 := KB.out.at_ (j := 2) rfl
  have k3 := KB.out.at_ (j := 3) rfl
  have k4 := KB.out.at_ (j := 4) rfl
  have k5 := KB.out.at_ (j := 5) rfl
  have kf := fun j => KB.out.free j
  go_wp2_with fail
  clear k0 k1 k2 k3 k4 k5 kf
  refine Calls.mono (clone_Edit l2 A2 n2 c2 lo2 hi2 _ (by omega) (R2.out.new (by repeat (first | with_reducible exact Below.refl _ _ | (with_reducible exact HB.out) | (with_reducible refine Below.setCell ?_ (by first | omega | (simp; done) | (simp <;> omega)) _) | (with_reducible refine Below.alloc ?_ (by first | omega | (simp; done) | (simp <;> omega)) _) | (refine Below.alloc ?_ (by first | omega | (simp; done) | (simp <;> omega)) _) | (refine Below.setCell ?_ (by first | omega | (simp; done) | (simp <;> omega)) _))))) ?_
  rintro e w2 ⟨v, rfl, ho, hb⟩
  obtain ⟨B2, d2, hv, F2⟩ := fr_of_own ho
  subst hv
  clear ho
  replace F1 := Lib.hid (show Fr w2 (w.heap.size + 2) (w1.heap.size) 102 5 B1 n1 d1 (cNode l1) from Fr.new (by repeat (first | with_reducible exact F1.out | (with_reducible refine Fr.put ?_ (by first | omega | (simp; done) | (simp <;> omega)) _) | (with_reducible refine Fr.alloc ?_ _))) hb)
  replace KR := Lib.hid ((box_past KR.out (by simp)).new hb)
  replace KB := Lib.hid (show BoxAt w2 w.heap.size 86 #[.int .i64 s0.f0, .int .i64 s0.f1, .slice B1 n1 d1, .slice A2 n2 c2, .slice A3 n3 c3, .int .i64 p4] from (box_put KB.out 2 (.slice B1 n1 d1)).new hb)
  have hs2 := hb.size
  (try simp at hs2)
  replace HB := Lib.hid (show Below w.heap.size w w2 from Below.trans (by repeat (first | with_reducible exact Below.refl _ _ | (with_reducible exact HB.out) | (with_reducible refine Below.setCell ?_ (by first | omega | (simp; done) | (simp <;> omega)) _) | (with_reducible refine Below.alloc ?_ (by first | omega | (simp; done) | (simp <;> omega)) _) | (refine Below.alloc ?_ (by first | omega | (simp; done) | (simp <;> omega)) _) | (refine Below.setCell ?_ (by first | omega | (simp; done) | (simp <;> omega)) _))) (hb.mono (by first | omega | (simp; done) | (simp <;> omega))))
  have z2_0 : w.heap.size < w2.heap.size := by omega
  have z2_1 : w.heap.size + 1 < w2.heap.size := by omega
  clear hb
  replace F2 := Lib.hid (F2.mono (lo' := w1.heap.size) (by simp) (Nat.le_refl _))
  have k0 := KB.out.at_ (j := 0) rfl
  have k1 := KB.out.at_ (j := 1) rfl
  have k2 := KB.out.at_ (j := 2) rfl
  have k3 := KB.out.at_ (j := 3) rfl
  have k4 := KB.out.at_ (j := 4) rfl
  have k5 := KB.out.at_ (j := 5) rfl
  have kf := fun j => KB.out.free j
  go_wp2_with fail
  clear k0 k1 k2 k3 k4 k5 kf
  refine Calls.mono (clone_int l3 A3 n3 c3 lo3 hi3 _ (by omega) (R3.out.new (by repeat (first | with_reducible exact Below.refl _ _ | (with_reducible exact HB.out) | (with_reducible refine Below.setCell ?_ (by first | omega | (simp; done) | (simp <;> omega)) _) | (with_reducible refine Below.alloc ?_ (by first | omega | (simp; done) | (simp <;> omega)) _) | (refine Below.alloc ?_ (by first | omega | (simp; done) | (simp <;> omega)) _) | (refine Below.setCell ?_ (by first | omega | (simp; done) | (simp <;> omega)) _))))) ?_
  rintro e w3 ⟨v, rfl, ho, hb⟩
  obtain ⟨B3, d3, hv, F3⟩ := fr_of_own ho
  subst hv
  clear ho
  replace F1 := Lib.hid (show Fr w3 (w.heap.size + 2) (w1.heap.size) 102 5 B1 n1 d1 (cNode l1) from Fr.new (by repeat (first | with_reducible exact F1.out | (with_reducible refine Fr.put ?_ (by first | omega | (simp; done) | (simp <;> omega)) _) | (with_reducible refine Fr.alloc ?_ _))) hb)
  replace F2 := Lib.hid (show Fr w3 (w1.heap.size) (w2.heap.size) 107 6 B2 n2 d2 (cEdit l2) from Fr.new (by repeat (first | with_reducible exact F2.out | (with_reducible refine Fr.put ?_ (by first | omega | (simp; done) | (simp <;> omega)) _) | (with_reducible refine Fr.alloc ?_ _))) hb)
  replace KR := Lib.hid ((box_past KR.out (by simp)).new hb)
  replace KB := Lib.hid (show BoxAt w3 w.heap.size 86 #[.int .i64 s0.f0, .int .i64 s0.f1, .slice B1 n1 d1, .slice B2 n2 d2, .slice A3 n3 c3, .int .i64 p4] from (box_put KB.out 3 (.slice B2 n2 d2)).new hb)
  have hs3 := hb.size
  (try simp at hs3)
  replace HB := Lib.hid (show Below w.heap.size w w3 from Below.trans (by repeat (first | with_reducible exact Below.refl _ _ | (with_reducible exact HB.out) | (with_reducible refine Below.setCell ?_ (by first | omega | (simp; done) | (simp <;> omega)) _) | (with_reducible refine Below.alloc ?_ (by first | omega | (simp; done) | (simp <;> omega)) _) | (refine Below.alloc ?_ (by first | omega | (simp; done) | (simp <;> omega)) _) | (refine Below.setCell ?_ (by first | omega | (simp; done) | (simp <;> omega)) _))) (hb.mono (by first | omega | (simp; done) | (simp <;> omega))))
  have z3_0 : w.heap.size < w3.heap.size := by omega
  have z3_1 : w.heap.size + 1 < w3.heap.size := by omega
  clear hb
  replace F3 := Lib.hid (F3.mono (lo' := w2.heap.size) (by simp) (Nat.le_refl _))
  have k0 := KB.out.at_ (j := 0) rfl
  have q0 := KR.out.at_ (j := 0) rfl
  have k1 := KB.out.at_ (j := 1) rfl
  have q1 := KR.out.at_ (j := 1) rfl
  have k2 := KB.out.at_ (j := 2) rfl
  have q2 := KR.out.at_ (j := 2) rfl
  have k3 := KB.out.at_ (j := 3) rfl
  have q3 := KR.out.at_ (j := 3) rfl
  have k4 := KB.out.at_ (j := 4) rfl
  have q4 := KR.out.at_ (j := 4) rfl
  have k5 := KB.out.at_ (j := 5) rfl
  have q5 := KR.out.at_ (j := 5) rfl
  have qf := fun j => KR.out.free j
  have kf := fun j => KB.out.free j
  go_wp2_with fail
  have KF := (box_put (box_put (box_put (box_put (box_put (box_put (box_past (p := ⟨w.heap.size, 4, none⟩) (v := .slice B3 n3 d3) KR.out (by simp)) 0 (.int .i64 s0.f0)) 1 (.int .i64 s0.f1)) 2 (.slice B1 n1 d1)) 3 (.slice B2 n2 d2)) 4 (.slice B3 n3 d3)) 5 (.int .i64 p4))
  have f0 := KF.at_ (j := 0) rfl
  have f1 := KF.at_ (j := 1) rfl
  have f2 := KF.at_ (j := 2) rfl
  have f3 := KF.at_ (j := 3) rfl
  have f4 := KF.at_ (j := 4) rfl
  have f5 := KF.at_ (j := 5) rfl
  exact bodyPost_ret (v := .agg #[.int .i64 s0.f0, .int .i64 s0.f1, .slice B1 n1 d1, .slice B2 n2 d2, .slice B3 n3 d3, .int .i64 p4]) (by simp [results, Try.results105, go_sem, f0, f1, f2, f3, f4, f5]) rfl
    ⟨B1, B2, B3, d1, w.heap.size + 2, w1.heap.size, d2, w1.heap.size, w2.heap.size, d3, w2.heap.size, w3.heap.size, rfl, (by repeat (first | with_reducible exact F1.out | (with_reducible refine Fr.put ?_ (by first | omega | (simp; done) | (simp <;> omega)) _) | (with_reducible refine Fr.alloc ?_ _))), (by repeat (first | with_reducible exact F2.out | (with_reducible refine Fr.put ?_ (by first | omega | (simp; done) | (simp <;> omega)) _) | (with_reducible refine Fr.alloc ?_ _))), (by repeat (first | with_reducible exact F3.out | (with_reducible refine Fr.put ?_ (by first | omega | (simp; done) | (simp <;> omega)) _) | (with_reducible refine Fr.alloc ?_ _))),
      Lib.hid (by unfold SepTab; simp; omega), by repeat (first | with_reducible exact Below.refl _ _ | (with_reducible exact HB.out) | (with_reducible refine Below.setCell ?_ (by first | omega | (simp; done) | (simp <;> omega)) _) | (with_reducible refine Below.alloc ?_ (by first | omega | (simp; done) | (simp <;> omega)) _) | (refine Below.alloc ?_ (by first | omega | (simp; done) | (simp <;> omega)) _) | (refine Below.setCell ?_ (by first | omega | (simp; done) | (simp <;> omega)) _))⟩

theorem spec_l5Copy (l : List TNode) (A : Option Addr) (n c lo hi : Nat) (w : World) (hn : n ≤ 1048576) (hr : Rd w lo hi 5 A n (cNode l)) :
    Calls Try.prog 156 #[.slice A n c] w (Makes 102 5 n (cNode l) w) := by
  have HR := Lib.hid hr
  have HO := Lib.hid (World.ownsRow_lit (e := 102) (size := 5) w #[] 0 (Nat.le_refl _) (by unfold maxLen; omega) rfl)
  clear hr
  go_enter Try.func156, Try.ntmps156
  go_wp2_with (at_builtin; refine wp_app rfl _ _ _ rfl w.heap.size 102 (.agg #[.int .i64 0, .int .i64 0, .int .i64 0, .int .i64 0, .int .i64 0]) 5 40 Try.underlying26 icNode rfl (by decide) _ _ _ rfl HO.out lo hi A n c (cNode l) rfl (HR.out.alloc _) (ocNode l) (by unfold maxLen; omega) (by omega) (by simp) ?_; intro v1 w1 ho1 hb1 _ _; have HO1 := Lib.hid ho1; have HB1 := Lib.hid (((Below.refl w.heap.size w).alloc (Nat.le_refl _) _).trans hb1); clear ho1 hb1)
  go_ret
  exact makes_of_own (by simpa using HO1.out) HB1.out

set_option maxHeartbeats 8000000 in
theorem spec_l31Copy (s0 : TSite) (l1 : List TNode) (A1 : Option Addr) (n1 c1 lo1 hi1 : Nat) (l2 : List TEdit) (A2 : Option Addr) (n2 c2 lo2 hi2 : Nat) (l3 : List Int) (A3 : Option Addr) (n3 c3 lo3 hi3 : Nat) (p4 : Int) (w : World) (h1 : n1 ≤ 1048576) (r1 : Rd w lo1 hi1 5 A1 n1 (cNode l1)) (h2 : n2 ≤ 1048576) (r2 : Rd w lo2 hi2 6 A2 n2 (cEdit l2)) (h3 : n3 ≤ 1048576) (r3 : Rd w lo3 hi3 1 A3 n3 (i64s l3)) :
    Calls Try.prog 102 #[.agg #[.int .i64 s0.f0, .int .i64 s0.f1, .slice A1 n1 c1, .slice A2 n2 c2, .slice A3 n3 c3, .int .i64 p4]] w (MakesTab s0 n1 l1 n2 l2 n3 l3 p4 w) := by
  have R1 := Lib.hid r1
  have R2 := Lib.hid r2
  have R3 := Lib.hid r3
  clear r1 r2 r3
  have KB0 : BoxAt ((w.alloc (.cells #[.int .i64 s0.f0, .int .i64 s0.f1, .slice A1 n1 c1, .slice A2 n2 c2, .slice A3 n3 c3, .int .i64 p4] 86)).alloc (.cells #[.int .i64 0, .int .i64 0, .slice none 0 0, .slice none 0 0, .slice none 0 0, .int .i64 0] 86)).drew w.heap.size 86 #[.int .i64 s0.f0, .int .i64 s0.f1, .slice A1 n1 c1, .slice A2 n2 c2, .slice A3 n3 c3, .int .i64 p4] := ((box_new w _ _).alloc_ _).drw
  obtain ⟨gres, hgres⟩ : ∃ g, g = w.heap.size + 1 := ⟨_, rfl⟩
  have Gres : BoxAt ((w.alloc (.cells #[.int .i64 s0.f0, .int .i64 s0.f1, .slice A1 n1 c1, .slice A2 n2 c2, .slice A3 n3 c3, .int .i64 p4] 86)).alloc (.cells #[.int .i64 0, .int .i64 0, .slice none 0 0, .slice none 0 0, .slice none 0 0, .int .i64 0] 86)).drew gres 86 #[.int .i64 0, .int .i64 0, .slice none 0 0, .slice none 0 0, .slice none 0 0, .int .i64 0] := by
    subst hgres
    exact (show BoxAt ((w.alloc (.cells #[.int .i64 s0.f0, .int .i64 s0.f1, .slice A1 n1 c1, .slice A2 n2 c2, .slice A3 n3 c3, .int .i64 p4] 86)).alloc (.cells #[.int .i64 0, .int .i64 0, .slice none 0 0, .slice none 0 0, .slice none 0 0, .int .i64 0] 86)) (w.heap.size + 1) 86 #[.int .i64 0, .int .i64 0, .slice none 0 0, .slice none 0 0, .slice none 0 0, .int .i64 0] by simpa using box_new (w.alloc (.cells #[.int .i64 s0.f0, .int .i64 s0.f1, .slice A1 n1 c1, .slice A2 n2 c2, .slice A3 n3 c3, .int .i64 p4] 86)) 86 #[.int .i64 0, .int .i64 0, .slice none 0 0, .slice none 0 0, .slice none 0 0, .int .i64 0]).drw
  have HBw : Below w.heap.size w ((w.alloc (.cells #[.int .i64 s0.f0, .int .i64 s0.f1, .slice A1 n1 c1, .slice A2 n2 c2, .slice A3 n3 c3, .int .i64 p4] 86)).alloc (.cells #[.int .i64 0, .int .i64 0, .slice none 0 0, .slice none 0 0, .slice none 0 0, .int .i64 0] 86)).drew := (((Below.refl _ _).alloc (Nat.le_refl _) _).alloc (by simp) _).drew
  go_enter Try.func102, Try.ntmps102
  go_wp2_with fail
  rw [← hgres]
  have Lres : w.heap.size + 1 ≤ gres := by omega
  clear hgres
  refine wp_region_held_drew (S := fun w' => BoxAt w' w.heap.size 86 #[.int .i64 s0.f0, .int .i64 s0.f1, .slice A1 n1 c1, .slice A2 n2 c2, .slice A3 n3 c3, .int .i64 p4] ∧ Below w.heap.size w w') (by kernel_rfl) ?_ (fun hHeld => ?_)
  · exact ⟨KB0, HBw⟩
  generalize (World.drew _) = x0 at hHeld Gres ⊢
  refine wpAnyH_take (i := 0) (oi := ⟨some 3, _, _, _, _, _⟩) (v := ?_) rfl (by kernel_rfl) (by kernel_rfl) (by kernel_rfl) (fun _ _ _ h => h) (Or.inl ⟨by kernel_rfl, ?_⟩) hHeld ?_
  rotate_left
  focus (intro W hS; have c0_0 := (hS.1).at_ (j := 0) rfl; have c0_1 := (hS.1).at_ (j := 1) rfl; have c0_2 := (hS.1).at_ (j := 2) rfl; have c0_3 := (hS.1).at_ (j := 3) rfl; have c0_4 := (hS.1).at_ (j := 4) rfl; have c0_5 := (hS.1).at_ (j := 5) rfl; clear hS; first | (go_simp; done) | (go_simp; with_reducible rfl))
  try simp only [Act.put, List.setIfInBounds_toArray, List.set_cons_zero, List.set_cons_succ]
  refine wpAnyH_take (i := 1) (oi := ⟨some 4, _, _, _, _, _⟩) (v := ?_) rfl (by kernel_rfl) (by kernel_rfl) (by kernel_rfl) (fun _ _ _ h => h) (Or.inl ⟨by kernel_rfl, ?_⟩) hHeld ?_
  rotate_left
  focus (intro W hS; have c0_0 := (hS.1).at_ (j := 0) rfl; have c0_1 := (hS.1).at_ (j := 1) rfl; have c0_2 := (hS.1).at_ (j := 2) rfl; have c0_3 := (hS.1).at_ (j := 3) rfl; have c0_4 := (hS.1).at_ (j := 4) rfl; have c0_5 := (hS.1).at_ (j := 5) rfl; clear hS; first | (go_simp; done) | (go_simp; with_reducible rfl))
  try simp only [Act.put, List.setIfInBounds_toArray, List.set_cons_zero, List.set_cons_succ]
  refine wpAnyH_take (i := 2) (oi := ⟨some 5, _, _, _, _, _⟩) (v := ?_) rfl (by kernel_rfl) (by kernel_rfl) (by kernel_rfl) (fun _ _ _ h => h) (Or.inl ⟨by kernel_rfl, ?_⟩) hHeld ?_
  rotate_left
  focus (intro W hS; have c0_0 := (hS.1).at_ (j := 0) rfl; have c0_1 := (hS.1).at_ (j := 1) rfl; have c0_2 := (hS.1).at_ (j := 2) rfl; have c0_3 := (hS.1).at_ (j := 3) rfl; have c0_4 := (hS.1).at_ (j := 4) rfl; have c0_5 := (hS.1).at_ (j := 5) rfl; clear hS; first | (go_simp; done) | (go_simp; with_reducible rfl))
  try simp only [Act.put, List.setIfInBounds_toArray, List.set_cons_zero, List.set_cons_succ]
  refine wpAnyH_take (i := 3) (oi := ⟨some 6, _, _, _, _, _⟩) (v := ?_) rfl (by kernel_rfl) (by kernel_rfl) (by kernel_rfl) (fun _ _ _ h => h) (Or.inl ⟨by kernel_rfl, ?_⟩) hHeld ?_
  rotate_left
  focus (intro W hS; have c0_0 := (hS.1).at_ (j := 0) rfl; have c0_1 := (hS.1).at_ (j := 1) rfl; have c0_2 := (hS.1).at_ (j := 2) rfl; have c0_3 := (hS.1).at_ (j := 3) rfl; have c0_4 := (hS.1).at_ (j := 4) rfl; have c0_5 := (hS.1).at_ (j := 5) rfl; clear hS; first | (go_simp; done) | (go_simp; with_reducible rfl))
  try simp only [Act.put, List.setIfInBounds_toArray, List.set_cons_zero, List.set_cons_succ]
  refine wpAnyH_take (i := 6) (oi := ⟨some 9, _, _, _, _, _⟩) (v := ?_) rfl (by kernel_rfl) (by kernel_rfl) (by kernel_rfl) (fun _ _ _ h => h) (Or.inl ⟨by kernel_rfl, ?_⟩) hHeld ?_
  rotate_left
  focus (intro W hS; have c0_0 := (hS.1).at_ (j := 0) rfl; have c0_1 := (hS.1).at_ (j := 1) rfl; have c0_2 := (hS.1).at_ (j := 2) rfl; have c0_3 := (hS.1).at_ (j := 3) rfl; have c0_4 := (hS.1).at_ (j := 4) rfl; have c0_5 := (hS.1).at_ (j := 5) rfl; clear hS; first | (go_simp; done) | (go_simp; with_reducible rfl))
  try simp only [Act.put, List.setIfInBounds_toArray, List.set_cons_zero, List.set_cons_succ]
  refine wpAnyH_take (i := 7) (oi := ⟨some 10, _, _, _, _, _⟩) (v := ?_) rfl (by kernel_rfl) (by kernel_rfl) (by kernel_rfl) (fun _ _ _ h => h) (Or.inl ⟨by kernel_rfl, ?_⟩) hHeld ?_
  rotate_left
  focus (intro W hS; have c0_0 := (hS.1).at_ (j := 0) rfl; have c0_1 := (hS.1).at_ (j := 1) rfl; have c0_2 := (hS.1).at_ (j := 2) rfl; have c0_3 := (hS.1).at_ (j := 3) rfl; have c0_4 := (hS.1).at_ (j := 4) rfl; have c0_5 := (hS.1).at_ (j := 5) rfl; clear hS; first | (go_simp; done) | (go_simp; with_reducible rfl))
  try simp only [Act.put, List.setIfInBounds_toArray, List.set_cons_zero, List.set_cons_succ]
  refine wpAnyH_take (i := 10) (oi := ⟨some 13, _, _, _, _, _⟩) (v := ?_) rfl (by kernel_rfl) (by kernel_rfl) (by kernel_rfl) (fun _ _ _ h => h) (Or.inl ⟨by kernel_rfl, ?_⟩) hHeld ?_
  rotate_left
  focus (intro W hS; have c0_0 := (hS.1).at_ (j := 0) rfl; have c0_1 := (hS.1).at_ (j := 1) rfl; have c0_2 := (hS.1).at_ (j := 2) rfl; have c0_3 := (hS.1).at_ (j := 3) rfl; have c0_4 := (hS.1).at_ (j := 4) rfl; have c0_5 := (hS.1).at_ (j := 5) rfl; clear hS; first | (go_simp; done) | (go_simp; with_reducible rfl))
  try simp only [Act.put, List.setIfInBounds_toArray, List.set_cons_zero, List.set_cons_succ]
  refine wpAnyH_take (i := 11) (oi := ⟨some 14, _, _, _, _, _⟩) (v := ?_) rfl (by kernel_rfl) (by kernel_rfl) (by kernel_rfl) (fun _ _ _ h => h) (Or.inl ⟨by kernel_rfl, ?_⟩) hHeld ?_
  rotate_left
  focus (intro W hS; have c0_0 := (hS.1).at_ (j := 0) rfl; have c0_1 := (hS.1).at_ (j := 1) rfl; have c0_2 := (hS.1).at_ (j := 2) rfl; have c0_3 := (hS.1).at_ (j := 3) rfl; have c0_4 := (hS.1).at_ (j := 4) rfl; have c0_5 := (hS.1).at_ (j := 5) rfl; clear hS; first | (go_simp; done) | (go_simp; with_reducible rfl))
  try simp only [Act.put, List.setIfInBounds_toArray, List.set_cons_zero, List.set_cons_succ]
  refine wpAnyH_take (i := 13) (oi := ⟨some 16, _, _, _, _, _⟩) (v := ?_) rfl (by kernel_rfl) (by kernel_rfl) (by kernel_rfl) (fun _ _ _ h => h) (Or.inl ⟨by kernel_rfl, ?_⟩) hHeld ?_
  rotate_left
  focus (intro W hS; have c0_0 := (hS.1).at_ (j := 0) rfl; have c0_1 := (hS.1).at_ (j := 1) rfl; have c0_2 := (hS.1).at_ (j := 2) rfl; have c0_3 := (hS.1).at_ (j := 3) rfl; have c0_4 := (hS.1).at_ (j := 4) rfl; have c0_5 := (hS.1).at_ (j := 5) rfl; clear hS; first | (go_simp; done) | (go_simp; with_reducible rfl))
  try simp only [Act.put, List.setIfInBounds_toArray, List.set_cons_zero, List.set_cons_succ]
  refine wpAnyH_take (i := 14) (oi := ⟨some 17, _, _, _, _, _⟩) (v := ?_) rfl (by kernel_rfl) (by kernel_rfl) (by kernel_rfl) (fun _ _ _ h => h) (Or.inl ⟨by kernel_rfl, ?_⟩) hHeld ?_
  rotate_left
  focus (intro W hS; have c0_0 := (hS.1).at_ (j := 0) rfl; have c0_1 := (hS.1).at_ (j := 1) rfl; have c0_2 := (hS.1).at_ (j := 2) rfl; have c0_3 := (hS.1).at_ (j := 3) rfl; have c0_4 := (hS.1).at_ (j := 4) rfl; have c0_5 := (hS.1).at_ (j := 5) rfl; clear hS; first | (go_simp; done) | (go_simp; with_reducible rfl))
  try simp only [Act.put, List.setIfInBounds_toArray, List.set_cons_zero, List.set_cons_succ]
  refine wpAnyH_ready (rs := [4, 5, 9]) (by kernel_rfl) (by simp) ?_
  refine AllReadyH.cons (o := ⟨some 7, _, _, _, _, _⟩) rfl (fun K hK => ?_) ?_
  · skip
    go_simp
    have PresK : gres < (x0).heap.size := Gres.lt
    refine Calls.mono (spec_l5Copy l1 A1 n1 c1 lo1 hi1 _ h1 (R1.out.new hHeld.2)) ?_
    rintro e x1 ⟨AK, cK, rfl, GK, hb1⟩
    replace Gres := Gres.new hb1
    refine hK.out _ _ ⟨hHeld.1.new hb1, below_trans hHeld.2 hb1 (Nat.le_refl _)⟩ (fun hHeld' => ?_)
    have Z1 := hb1.size
    clear hK K hHeld hb1
    have hHeld := hHeld'
    clear hHeld'
    try simp only [Act.put, List.setIfInBounds_toArray, List.set_cons_zero, List.set_cons_succ]
    refine wpAnyH_ready (rs := [5, 9]) (by kernel_rfl) (by simp) ?_
    refine AllReadyH.cons (o := ⟨some 8, _, _, _, _, _⟩) rfl (fun K hK => ?_) ?_
    · skip
      go_simp
      have Gb2 := box_new (x1) 107 #[]
      have hb1 := (Below.refl (x1).heap.size (x1)).alloc (Nat.le_refl _) (.cells #[] 107)
      have Lb2 : w.heap.size ≤ (x1).heap.size := by have := (hHeld.1).lt; have := (hHeld.2).size; omega
      have M0b2 : w.heap.size < (x1).heap.size := (hHeld.1).lt
      replace GK := GK.new hb1
      have Nresb2 : gres < (x1).heap.size := Gres.lt
      replace Gres := Gres.new hb1
      generalize (x1).alloc (.cells #[] 107) = x2 at hb1 Gb2 Gres GK ⊢
      generalize hg : (x1).heap.size = gb2 at Gb2 Lb2 Nresb2 M0b2 ⊢
      clear hg
      refine hK.out _ _ ⟨hHeld.1.new hb1, below_trans hHeld.2 hb1 (Nat.le_refl _)⟩ (fun hHeld' => ?_)
      have Z2 := hb1.size
      clear hK K hHeld hb1
      have hHeld := hHeld'
      clear hHeld'
      try simp only [Act.put, List.setIfInBounds_toArray, List.set_cons_zero, List.set_cons_succ]
      refine wpAnyH_ready (rs := [8, 9]) (by kernel_rfl) (by simp) ?_
      refine AllReadyH.cons (o := ⟨some 11, _, _, _, _, _⟩) rfl (fun K hK => ?_) ?_
      · skip
        refine step_app0 rfl _ _ _ (by rfl) 107 (.agg #[.int .i64 0, .int .i64 0, .int .i64 0, .int .i64 0, .int .i64 0, .int .i64 0]) 6 48 Try.underlying36 icEdit rfl (by decide) gb2 (by rfl) Gb2 lo2 hi2 A2 n2 c2 (cEdit l2) (by rfl) (R2.out.new hHeld.2) (ocEdit l2) (by unfold maxLen; omega) (by omega) ?_
        intro Av2 cv2 x3 hF hb1
        have Presv2 : gres < (x2).heap.size := Gres.lt
        replace Gres := Gres.new hb1
        replace GK := GK.new hb1
        replace Gb2 := Gb2.new hb1
        have Gv2 := hF
        clear hF
        refine hK.out _ _ ⟨hHeld.1.new hb1, below_trans hHeld.2 hb1 (Nat.le_refl _)⟩ (fun hHeld' => ?_)
        have Z3 := hb1.size
        clear hK K hHeld hb1
        have hHeld := hHeld'
        clear hHeld'
        try simp only [Act.put, List.setIfInBounds_toArray, List.set_cons_zero, List.set_cons_succ]
        refine wpAnyH_ready (rs := [9]) (by kernel_rfl) (by simp) ?_
        refine AllReadyH.cons (o := ⟨some 12, _, _, _, _, _⟩) rfl (fun K hK => ?_) AllReadyH.nil
        go_simp
        have Gb3 := box_new (x3) 3 #[]
        have hb1 := (Below.refl (x3).heap.size (x3)).alloc (Nat.le_refl _) (.cells #[] 3)
        have Lb3 : w.heap.size ≤ (x3).heap.size := by have := (hHeld.1).lt; have := (hHeld.2).size; omega
        have M0b3 : w.heap.size < (x3).heap.size := (hHeld.1).lt
        replace GK := GK.new hb1
        replace Gv2 := Gv2.new hb1
        have Nresb3 : gres < (x3).heap.size := Gres.lt
        replace Gres := Gres.new hb1
        have Nb2b3 : gb2 < (x3).heap.size := Gb2.lt
        replace Gb2 := Gb2.new hb1
        generalize (x3).alloc (.cells #[] 3) = x4 at hb1 Gb3 Gres GK Gb2 Gv2 ⊢
        generalize hg : (x3).heap.size = gb3 at Gb3 Lb3 Nresb3 Nb2b3 M0b3 ⊢
        clear hg
        refine hK.out _ _ ⟨hHeld.1.new hb1, below_trans hHeld.2 hb1 (Nat.le_refl _)⟩ (fun hHeld' => ?_)
        have Z4 := hb1.size
        clear hK K hHeld hb1
        have hHeld := hHeld'
        clear hHeld'
        try simp only [Act.put, List.setIfInBounds_toArray, List.set_cons_zero, List.set_cons_succ]
        refine wpAnyH_ready (rs := [12]) (by kernel_rfl) (by simp) ?_
        refine AllReadyH.cons (o := ⟨some 15, _, _, _, _, _⟩) rfl (fun K hK => ?_) AllReadyH.nil
        refine step_app0 rfl _ _ _ (by rfl) 3 (.int .i64 0) 1 8 Try.underlying24 info_int rfl (by decide) gb3 (by rfl) Gb3 lo3 hi3 A3 n3 c3 (i64s l3) (by rfl) (R3.out.new hHeld.2) (ints_oneCell _ _) (by unfold maxLen; omega) (by omega) ?_
        intro Av3 cv3 x5 hF hb1
        have Presv3 : gres < (x4).heap.size := Gres.lt
        replace Gres := Gres.new hb1
        replace GK := GK.new hb1
        replace Gb2 := Gb2.new hb1
        replace Gv2 := Gv2.new hb1
        replace Gb3 := Gb3.new hb1
        have Gv3 := hF
        clear hF
        refine hK.out _ _ ⟨hHeld.1.new hb1, below_trans hHeld.2 hb1 (Nat.le_refl _)⟩ (fun hHeld' => ?_)
        have Z5 := hb1.size
        clear hK K hHeld hb1
        have hHeld := hHeld'
        clear hHeld'
        try simp only [Act.put, List.setIfInBounds_toArray, List.set_cons_zero, List.set_cons_succ]
        refine wpAnyH_take (i := 15) (oi := ⟨some 18, _, _, _, _, _⟩) (v := ?_) rfl (by kernel_rfl) (by kernel_rfl) (by kernel_rfl) (fun _ _ _ h => h) (Or.inl ⟨by kernel_rfl, ?_⟩) hHeld ?_
        rotate_left
        focus (intro W hS; have c0_0 := (hS.1).at_ (j := 0) rfl; have c0_1 := (hS.1).at_ (j := 1) rfl; have c0_2 := (hS.1).at_ (j := 2) rfl; have c0_3 := (hS.1).at_ (j := 3) rfl; have c0_4 := (hS.1).at_ (j := 4) rfl; have c0_5 := (hS.1).at_ (j := 5) rfl; clear hS; first | (go_simp; done) | (go_simp; with_reducible rfl))
        try simp only [Act.put, List.setIfInBounds_toArray, List.set_cons_zero, List.set_cons_succ]
        refine wpAnyH_ready (rs := [16]) (by kernel_rfl) (by simp) ?_
        refine AllReadyH.cons (o := ⟨none, _, _, _, _, _⟩) rfl (fun K hK => ?_) AllReadyH.nil
        rw [if_pos (by rfl)]
        refine wp_store_row 86 _ _ rfl gres #[.int .i64 s0.f0, .int .i64 s0.f1, .slice AK n1 cK, .slice Av2 n2 cv2, .slice Av3 n3 cv3, .int .i64 p4] rfl rfl 86 _ Gres (by kernel_rfl) (by kernel_rfl) (by kernel_rfl) ?_
        replace Gres := box_row (cs := #[.int .i64 s0.f0, .int .i64 s0.f1, .slice AK n1 cK, .slice Av2 n2 cv2, .slice Av3 n3 cv3, .int .i64 p4]) Gres
        replace Gb2 := box_far (cs := #[.int .i64 s0.f0, .int .i64 s0.f1, .slice AK n1 cK, .slice Av2 n2 cv2, .slice Av3 n3 cv3, .int .i64 p4]) (g := gres) Gb2 (by omega)
        replace Gb3 := box_far (cs := #[.int .i64 s0.f0, .int .i64 s0.f1, .slice AK n1 cK, .slice Av2 n2 cv2, .slice Av3 n3 cv3, .int .i64 p4]) (g := gres) Gb3 (by omega)
        have hc1 := chg_row x5 gres #[.int .i64 s0.f0, .int .i64 s0.f1, .slice AK n1 cK, .slice Av2 n2 cv2, .slice Av3 n3 cv3, .int .i64 p4]
        have hHeld2 : BoxAt (World.setRow x5 gres #[.int .i64 s0.f0, .int .i64 s0.f1, .slice AK n1 cK, .slice Av2 n2 cv2, .slice Av3 n3 cv3, .int .i64 p4]) w.heap.size 86 #[.int .i64 s0.f0, .int .i64 s0.f1, .slice A1 n1 c1, .slice A2 n2 c2, .slice A3 n3 c3, .int .i64 p4] ∧ Below w.heap.size w (World.setRow x5 gres #[.int .i64 s0.f0, .int .i64 s0.f1, .slice AK n1 cK, .slice Av2 n2 cv2, .slice Av3 n3 cv3, .int .i64 p4]) := ⟨hHeld.1.chg hc1 (by omega), below_setRow hHeld.2 (by omega) _⟩
        replace GK := GK.chg hc1 (by omega)
        replace Gv2 := Gv2.chg hc1 (by omega)
        replace Gv3 := Gv3.chg hc1 (by omega)
        clear hc1
        have Z6 : (x5).heap.size ≤ (World.setRow x5 gres #[.int .i64 s0.f0, .int .i64 s0.f1, .slice AK n1 cK, .slice Av2 n2 cv2, .slice Av3 n3 cv3, .int .i64 p4]).heap.size := by simp
        generalize World.setRow x5 gres #[.int .i64 s0.f0, .int .i64 s0.f1, .slice AK n1 cK, .slice Av2 n2 cv2, .slice Av3 n3 cv3, .int .i64 p4] = x6 at hHeld2 Gres GK Gb2 Gv2 Gb3 Gv3 Z6 ⊢
        refine hK.out _ _ hHeld2 (fun hHeld' => ?_)
        clear hHeld2
        clear hK K hHeld
        have hHeld := hHeld'
        clear hHeld'
        try simp only [Act.put, List.setIfInBounds_toArray, List.set_cons_zero, List.set_cons_succ]
        refine wpAnyH_done (by kernel_rfl) ?_ _
        go_wp2_with fail
        have k0 := Gres.at_ (j := 0) rfl
        have k1 := Gres.at_ (j := 1) rfl
        have k2 := Gres.at_ (j := 2) rfl
        have k3 := Gres.at_ (j := 3) rfl
        have k4 := Gres.at_ (j := 4) rfl
        have k5 := Gres.at_ (j := 5) rfl
        have hHB := hHeld.2
        clear hHeld
        exact bodyPost_ret (v := .agg #[.int .i64 s0.f0, .int .i64 s0.f1, .slice AK n1 cK, .slice Av2 n2 cv2, .slice Av3 n3 cv3, .int .i64 p4]) (by simp [results, Try.results102, go_sem, k0, k1, k2, k3, k4, k5]) rfl ⟨AK, Av2, Av3, cK, _, _, cv2, _, _, cv3, _, _, rfl, GK, Gv2, Gv3, Lib.hid (by unfold SepTab; omega), hHB⟩
      refine AllReadyH.cons (o := ⟨some 12, _, _, _, _, _⟩) rfl (fun K hK => ?_) ?_
      · skip
        go_simp
        have Gb3 := box_new (x2) 3 #[]
        have hb1 := (Below.refl (x2).heap.size (x2)).alloc (Nat.le_refl _) (.cells #[] 3)
        have Lb3 : w.heap.size ≤ (x2).heap.size := by have := (hHeld.1).lt; have := (hHeld.2).size; omega
        have M0b3 : w.heap.size < (x2).heap.size := (hHeld.1).lt
        replace GK := GK.new hb1
        have Nresb3 : gres < (x2).heap.size := Gres.lt
        replace Gres := Gres.new hb1
        have Nb2b3 : gb2 < (x2).heap.size := Gb2.lt
        replace Gb2 := Gb2.new hb1
        generalize (x2).alloc (.cells #[] 3) = x3 at hb1 Gb3 Gres GK Gb2 ⊢
        generalize hg : (x2).heap.size = gb3 at Gb3 Lb3 Nresb3 Nb2b3 M0b3 ⊢
        clear hg
        refine hK.out _ _ ⟨hHeld.1.new hb1, below_trans hHeld.2 hb1 (Nat.le_refl _)⟩ (fun hHeld' => ?_)
        have Z3 := hb1.size
        clear hK K hHeld hb1
        have hHeld := hHeld'
        clear hHeld'
        try simp only [Act.put, List.setIfInBounds_toArray, List.set_cons_zero, List.set_cons_succ]
        refine wpAnyH_ready (rs := [8]) (by kernel_rfl) (by simp) ?_
        refine AllReadyH.cons (o := ⟨some 11, _, _, _, _, _⟩) rfl (fun K hK => ?_) AllReadyH.nil
        refine step_app0 rfl _ _ _ (by rfl) 107 (.agg #[.int .i64 0, .int .i64 0, .int .i64 0, .int .i64 0, .int .i64 0, .int .i64 0]) 6 48 Try.underlying36 icEdit rfl (by decide) gb2 (by rfl) Gb2 lo2 hi2 A2 n2 c2 (cEdit l2) (by rfl) (R2.out.new hHeld.2) (ocEdit l2) (by unfold maxLen; omega) (by omega) ?_
        intro Av2 cv2 x4 hF hb1
        have Presv2 : gres < (x3).heap.size := Gres.lt
        replace Gres := Gres.new hb1
        replace GK := GK.new hb1
        replace Gb2 := Gb2.new hb1
        replace Gb3 := Gb3.new hb1
        have Gv2 := hF
        clear hF
        refine hK.out _ _ ⟨hHeld.1.new hb1, below_trans hHeld.2 hb1 (Nat.le_refl _)⟩ (fun hHeld' => ?_)
        have Z4 := hb1.size
        clear hK K hHeld hb1
        have hHeld := hHeld'
        clear hHeld'
        try simp only [Act.put, List.setIfInBounds_toArray, List.set_cons_zero, List.set_cons_succ]
        refine wpAnyH_ready (rs := [12]) (by kernel_rfl) (by simp) ?_
        refine AllReadyH.cons (o := ⟨some 15, _, _, _, _, _⟩) rfl (fun K hK => ?_) AllReadyH.nil
        refine step_app0 rfl _ _ _ (by rfl) 3 (.int .i64 0) 1 8 Try.underlying24 info_int rfl (by decide) gb3 (by rfl) Gb3 lo3 hi3 A3 n3 c3 (i64s l3) (by rfl) (R3.out.new hHeld.2) (ints_oneCell _ _) (by unfold maxLen; omega) (by omega) ?_
        intro Av3 cv3 x5 hF hb1
        have Presv3 : gres < (x4).heap.size := Gres.lt
        replace Gres := Gres.new hb1
        replace GK := GK.new hb1
        replace Gb2 := Gb2.new hb1
        replace Gb3 := Gb3.new hb1
        replace Gv2 := Gv2.new hb1
        have Gv3 := hF
        clear hF
        refine hK.out _ _ ⟨hHeld.1.new hb1, below_trans hHeld.2 hb1 (Nat.le_refl _)⟩ (fun hHeld' => ?_)
        have Z5 := hb1.size
        clear hK K hHeld hb1
        have hHeld := hHeld'
        clear hHeld'
        try simp only [Act.put, List.setIfInBounds_toArray, List.set_cons_zero, List.set_cons_succ]
        refine wpAnyH_take (i := 15) (oi := ⟨some 18, _, _, _, _, _⟩) (v := ?_) rfl (by kernel_rfl) (by kernel_rfl) (by kernel_rfl) (fun _ _ _ h => h) (Or.inl ⟨by kernel_rfl, ?_⟩) hHeld ?_
        rotate_left
        focus (intro W hS; have c0_0 := (hS.1).at_ (j := 0) rfl; have c0_1 := (hS.1).at_ (j := 1) rfl; have c0_2 := (hS.1).at_ (j := 2) rfl; have c0_3 := (hS.1).at_ (j := 3) rfl; have c0_4 := (hS.1).at_ (j := 4) rfl; have c0_5 := (hS.1).at_ (j := 5) rfl; clear hS; first | (go_simp; done) | (go_simp; with_reducible rfl))
        try simp only [Act.put, List.setIfInBounds_toArray, List.set_cons_zero, List.set_cons_succ]
        refine wpAnyH_ready (rs := [16]) (by kernel_rfl) (by simp) ?_
        refine AllReadyH.cons (o := ⟨none, _, _, _, _, _⟩) rfl (fun K hK => ?_) AllReadyH.nil
        rw [if_pos (by rfl)]
        refine wp_store_row 86 _ _ rfl gres #[.int .i64 s0.f0, .int .i64 s0.f1, .slice AK n1 cK, .slice Av2 n2 cv2, .slice Av3 n3 cv3, .int .i64 p4] rfl rfl 86 _ Gres (by kernel_rfl) (by kernel_rfl) (by kernel_rfl) ?_
        replace Gres := box_row (cs := #[.int .i64 s0.f0, .int .i64 s0.f1, .slice AK n1 cK, .slice Av2 n2 cv2, .slice Av3 n3 cv3, .int .i64 p4]) Gres
        replace Gb2 := box_far (cs := #[.int .i64 s0.f0, .int .i64 s0.f1, .slice AK n1 cK, .slice Av2 n2 cv2, .slice Av3 n3 cv3, .int .i64 p4]) (g := gres) Gb2 (by omega)
        replace Gb3 := box_far (cs := #[.int .i64 s0.f0, .int .i64 s0.f1, .slice AK n1 cK, .slice Av2 n2 cv2, .slice Av3 n3 cv3, .int .i64 p4]) (g := gres) Gb3 (by omega)
        have hc1 := chg_row x5 gres #[.int .i64 s0.f0, .int .i64 s0.f1, .slice AK n1 cK, .slice Av2 n2 cv2, .slice Av3 n3 cv3, .int .i64 p4]
        have hHeld2 : BoxAt (World.setRow x5 gres #[.int .i64 s0.f0, .int .i64 s0.f1, .slice AK n1 cK, .slice Av2 n2 cv2, .slice Av3 n3 cv3, .int .i64 p4]) w.heap.size 86 #[.int .i64 s0.f0, .int .i64 s0.f1, .slice A1 n1 c1, .slice A2 n2 c2, .slice A3 n3 c3, .int .i64 p4] ∧ Below w.heap.size w (World.setRow x5 gres #[.int .i64 s0.f0, .int .i64 s0.f1, .slice AK n1 cK, .slice Av2 n2 cv2, .slice Av3 n3 cv3, .int .i64 p4]) := ⟨hHeld.1.chg hc1 (by omega), below_setRow hHeld.2 (by omega) _⟩
        replace GK := GK.chg hc1 (by omega)
        replace Gv2 := Gv2.chg hc1 (by omega)
        replace Gv3 := Gv3.chg hc1 (by omega)
        clear hc1
        have Z6 : (x5).heap.size ≤ (World.setRow x5 gres #[.int .i64 s0.f0, .int .i64 s0.f1, .slice AK n1 cK, .slice Av2 n2 cv2, .slice Av3 n3 cv3, .int .i64 p4]).heap.size := by simp
        generalize World.setRow x5 gres #[.int .i64 s0.f0, .int .i64 s0.f1, .slice AK n1 cK, .slice Av2 n2 cv2, .slice Av3 n3 cv3, .int .i64 p4] = x6 at hHeld2 Gres GK Gb2 Gb3 Gv2 Gv3 Z6 ⊢
        refine hK.out _ _ hHeld2 (fun hHeld' => ?_)
        clear hHeld2
        clear hK K hHeld
        have hHeld := hHeld'
        clear hHeld'
        try simp only [Act.put, List.setIfInBounds_toArray, List.set_cons_zero, List.set_cons_succ]
        refine wpAnyH_done (by kernel_rfl) ?_ _
        go_wp2_with fail
        have k0 := Gres.at_ (j := 0) rfl
        have k1 := Gres.at_ (j := 1) rfl
        have k2 := Gres.at_ (j := 2) rfl
        have k3 := Gres.at_ (j := 3) rfl
        have k4 := Gres.at_ (j := 4) rfl
        have k5 := Gres.at_ (j := 5) rfl
        have hHB := hHeld.2
        clear hHeld
        exact bodyPost_ret (v := .agg #[.int .i64 s0.f0, .int .i64 s0.f1, .slice AK n1 cK, .slice Av2 n2 cv2, .slice Av3 n3 cv3, .int .i64 p4]) (by simp [results, Try.results102, go_sem, k0, k1, k2, k3, k4, k5]) rfl ⟨AK, Av2, Av3, cK, _, _, cv2, _, _, cv3, _, _, rfl, GK, Gv2, Gv3, Lib.hid (by unfold SepTab; omega), hHB⟩
      exact AllReadyH.nil
    refine AllReadyH.cons (o := ⟨some 12, _, _, _, _, _⟩) rfl (fun K hK => ?_) ?_
    · skip
      go_simp
      have Gb3 := box_new (x1) 3 #[]
      have hb1 := (Below.refl (x1).heap.size (x1)).alloc (Nat.le_refl _) (.cells #[] 3)
      have Lb3 : w.heap.size ≤ (x1).heap.size := by have := (hHeld.1).lt; have := (hHeld.2).size; omega
      have M0b3 : w.heap.size < (x1).heap.size := (hHeld.1).lt
      replace GK := GK.new hb1
      have Nresb3 : gres < (x1).heap.size := Gres.lt
      replace Gres := Gres.new hb1
      generalize (x1).alloc (.cells #[] 3) = x2 at hb1 Gb3 Gres GK ⊢
      generalize hg : (x1).heap.size = gb3 at Gb3 Lb3 Nresb3 M0b3 ⊢
      clear hg
      refine hK.out _ _ ⟨hHeld.1.new hb1, below_trans hHeld.2 hb1 (Nat.le_refl _)⟩ (fun hHeld' => ?_)
      have Z2 := hb1.size
      clear hK K hHeld hb1
      have hHeld := hHeld'
      clear hHeld'
      try simp only [Act.put, List.setIfInBounds_toArray, List.set_cons_zero, List.set_cons_succ]
      refine wpAnyH_ready (rs := [5]) (by kernel_rfl) (by simp) ?_
      refine AllReadyH.cons (o := ⟨some 8, _, _, _, _, _⟩) rfl (fun K hK => ?_) AllReadyH.nil
      go_simp
      have Gb2 := box_new (x2) 107 #[]
      have hb1 := (Below.refl (x2).heap.size (x2)).alloc (Nat.le_refl _) (.cells #[] 107)
      have Lb2 : w.heap.size ≤ (x2).heap.size := by have := (hHeld.1).lt; have := (hHeld.2).size; omega
      have M0b2 : w.heap.size < (x2).heap.size := (hHeld.1).lt
      replace GK := GK.new hb1
      have Nresb2 : gres < (x2).heap.size := Gres.lt
      replace Gres := Gres.new hb1
      have Nb3b2 : gb3 < (x2).heap.size := Gb3.lt
      replace Gb3 := Gb3.new hb1
      generalize (x2).alloc (.cells #[] 107) = x3 at hb1 Gb2 Gres GK Gb3 ⊢
      generalize hg : (x2).heap.size = gb2 at Gb2 Lb2 Nresb2 Nb3b2 M0b2 ⊢
      clear hg
      refine hK.out _ _ ⟨hHeld.1.new hb1, below_trans hHeld.2 hb1 (Nat.le_refl _)⟩ (fun hHeld' => ?_)
      have Z3 := hb1.size
      clear hK K hHeld hb1
      have hHeld := hHeld'
      clear hHeld'
      try simp only [Act.put, List.setIfInBounds_toArray, List.set_cons_zero, List.set_cons_succ]
      refine wpAnyH_ready (rs := [8]) (by kernel_rfl) (by simp) ?_
      refine AllReadyH.cons (o := ⟨some 11, _, _, _, _, _⟩) rfl (fun K hK => ?_) AllReadyH.nil
      refine step_app0 rfl _ _ _ (by rfl) 107 (.agg #[.int .i64 0, .int .i64 0, .int .i64 0, .int .i64 0, .int .i64 0, .int .i64 0]) 6 48 Try.underlying36 icEdit rfl (by decide) gb2 (by rfl) Gb2 lo2 hi2 A2 n2 c2 (cEdit l2) (by rfl) (R2.out.new hHeld.2) (ocEdit l2) (by unfold maxLen; omega) (by omega) ?_
      intro Av2 cv2 x4 hF hb1
      have Presv2 : gres < (x3).heap.size := Gres.lt
      replace Gres := Gres.new hb1
      replace GK := GK.new hb1
      replace Gb3 := Gb3.new hb1
      replace Gb2 := Gb2.new hb1
      have Gv2 := hF
      clear hF
      refine hK.out _ _ ⟨hHeld.1.new hb1, below_trans hHeld.2 hb1 (Nat.le_refl _)⟩ (fun hHeld' => ?_)
      have Z4 := hb1.size
      clear hK K hHeld hb1
      have hHeld := hHeld'
      clear hHeld'
      try simp only [Act.put, List.setIfInBounds_toArray, List.set_cons_zero, List.set_cons_succ]
      refine wpAnyH_ready (rs := [12]) (by kernel_rfl) (by simp) ?_
      refine AllReadyH.cons (o := ⟨some 15, _, _, _, _, _⟩) rfl (fun K hK => ?_) AllReadyH.nil
      refine step_app0 rfl _ _ _ (by rfl) 3 (.int .i64 0) 1 8 Try.underlying24 info_int rfl (by decide) gb3 (by rfl) Gb3 lo3 hi3 A3 n3 c3 (i64s l3) (by rfl) (R3.out.new hHeld.2) (ints_oneCell _ _) (by unfold maxLen; omega) (by omega) ?_
      intro Av3 cv3 x5 hF hb1
      have Presv3 : gres < (x4).heap.size := Gres.lt
      replace Gres := Gres.new hb1
      replace GK := GK.new hb1
      replace Gb3 := Gb3.new hb1
      replace Gb2 := Gb2.new hb1
      replace Gv2 := Gv2.new hb1
      have Gv3 := hF
      clear hF
      refine hK.out _ _ ⟨hHeld.1.new hb1, below_trans hHeld.2 hb1 (Nat.le_refl _)⟩ (fun hHeld' => ?_)
      have Z5 := hb1.size
      clear hK K hHeld hb1
      have hHeld := hHeld'
      clear hHeld'
      try simp only [Act.put, List.setIfInBounds_toArray, List.set_cons_zero, List.set_cons_succ]
      refine wpAnyH_take (i := 15) (oi := ⟨some 18, _, _, _, _, _⟩) (v := ?_) rfl (by kernel_rfl) (by kernel_rfl) (by kernel_rfl) (fun _ _ _ h => h) (Or.inl ⟨by kernel_rfl, ?_⟩) hHeld ?_
      rotate_left
      focus (intro W hS; have c0_0 := (hS.1).at_ (j := 0) rfl; have c0_1 := (hS.1).at_ (j := 1) rfl; have c0_2 := (hS.1).at_ (j := 2) rfl; have c0_3 := (hS.1).at_ (j := 3) rfl; have c0_4 := (hS.1).at_ (j := 4) rfl; have c0_5 := (hS.1).at_ (j := 5) rfl; clear hS; first | (go_simp; done) | (go_simp; with_reducible rfl))
      try simp only [Act.put, List.setIfInBounds_toArray, List.set_cons_zero, List.set_cons_succ]
      refine wpAnyH_ready (rs := [16]) (by kernel_rfl) (by simp) ?_
      refine AllReadyH.cons (o := ⟨none, _, _, _, _, _⟩) rfl (fun K hK => ?_) AllReadyH.nil
      rw [if_pos (by rfl)]
      refine wp_store_row 86 _ _ rfl gres #[.int .i64 s0.f0, .int .i64 s0.f1, .slice AK n1 cK, .slice Av2 n2 cv2, .slice Av3 n3 cv3, .int .i64 p4] rfl rfl 86 _ Gres (by kernel_rfl) (by kernel_rfl) (by kernel_rfl) ?_
      replace Gres := box_row (cs := #[.int .i64 s0.f0, .int .i64 s0.f1, .slice AK n1 cK, .slice Av2 n2 cv2, .slice Av3 n3 cv3, .int .i64 p4]) Gres
      replace Gb3 := box_far (cs := #[.int .i64 s0.f0, .int .i64 s0.f1, .slice AK n1 cK, .slice Av2 n2 cv2, .slice Av3 n3 cv3, .int .i64 p4]) (g := gres) Gb3 (by omega)
      replace Gb2 := box_far (cs := #[.int .i64 s0.f0, .int .i64 s0.f1, .slice AK n1 cK, .slice Av2 n2 cv2, .slice Av3 n3 cv3, .int .i64 p4]) (g := gres) Gb2 (by omega)
      have hc1 := chg_row x5 gres #[.int .i64 s0.f0, .int .i64 s0.f1, .slice AK n1 cK, .slice Av2 n2 cv2, .slice Av3 n3 cv3, .int .i64 p4]
      have hHeld2 : BoxAt (World.setRow x5 gres #[.int .i64 s0.f0, .int .i64 s0.f1, .slice AK n1 cK, .slice Av2 n2 cv2, .slice Av3 n3 cv3, .int .i64 p4]) w.heap.size 86 #[.int .i64 s0.f0, .int .i64 s0.f1, .slice A1 n1 c1, .slice A2 n2 c2, .slice A3 n3 c3, .int .i64 p4] ∧ Below w.heap.size w (World.setRow x5 gres #[.int .i64 s0.f0, .int .i64 s0.f1, .slice AK n1 cK, .slice Av2 n2 cv2, .slice Av3 n3 cv3, .int .i64 p4]) := ⟨hHeld.1.chg hc1 (by omega), below_setRow hHeld.2 (by omega) _⟩
      replace GK := GK.chg hc1 (by omega)
      replace Gv2 := Gv2.chg hc1 (by omega)
      replace Gv3 := Gv3.chg hc1 (by omega)
      clear hc1
      have Z6 : (x5).heap.size ≤ (World.setRow x5 gres #[.int .i64 s0.f0, .int .i64 s0.f1, .slice AK n1 cK, .slice Av2 n2 cv2, .slice Av3 n3 cv3, .int .i64 p4]).heap.size := by simp
      generalize World.setRow x5 gres #[.int .i64 s0.f0, .int .i64 s0.f1, .slice AK n1 cK, .slice Av2 n2 cv2, .slice Av3 n3 cv3, .int .i64 p4] = x6 at hHeld2 Gres GK Gb3 Gb2 Gv2 Gv3 Z6 ⊢
      refine hK.out _ _ hHeld2 (fun hHeld' => ?_)
      clear hHeld2
      clear hK K hHeld
      have hHeld := hHeld'
      clear hHeld'
      try simp only [Act.put, List.setIfInBounds_toArray, List.set_cons_zero, List.set_cons_succ]
      refine wpAnyH_done (by kernel_rfl) ?_ _
      go_wp2_with fail
      have k0 := Gres.at_ (j := 0) rfl
      have k1 := Gres.at_ (j := 1) rfl
      have k2 := Gres.at_ (j := 2) rfl
      have k3 := Gres.at_ (j := 3) rfl
      have k4 := Gres.at_ (j := 4) rfl
      have k5 := Gres.at_ (j := 5) rfl
      have hHB := hHeld.2
      clear hHeld
      exact bodyPost_ret (v := .agg #[.int .i64 s0.f0, .int .i64 s0.f1, .slice AK n1 cK, .slice Av2 n2 cv2, .slice Av3 n3 cv3, .int .i64 p4]) (by simp [results, Try.results102, go_sem, k0, k1, k2, k3, k4, k5]) rfl ⟨AK, Av2, Av3, cK, _, _, cv2, _, _, cv3, _, _, rfl, GK, Gv2, Gv3, Lib.hid (by unfold SepTab; omega), hHB⟩
    exact AllReadyH.nil
  refine AllReadyH.cons (o := ⟨some 8, _, _, _, _, _⟩) rfl (fun K hK => ?_) ?_
  · skip
    go_simp
    have Gb2 := box_new (x0) 107 #[]
    have hb1 := (Below.refl (x0).heap.size (x0)).alloc (Nat.le_refl _) (.cells #[] 107)
    have Lb2 : w.heap.size ≤ (x0).heap.size := by have := (hHeld.1).lt; have := (hHeld.2).size; omega
    have M0b2 : w.heap.size < (x0).heap.size := (hHeld.1).lt
    have Nresb2 : gres < (x0).heap.size := Gres.lt
    replace Gres := Gres.new hb1
    generalize (x0).alloc (.cells #[] 107) = x1 at hb1 Gb2 Gres ⊢
    generalize hg : (x0).heap.size = gb2 at Gb2 Lb2 Nresb2 M0b2 ⊢
    clear hg
    refine hK.out _ _ ⟨hHeld.1.new hb1, below_trans hHeld.2 hb1 (Nat.le_refl _)⟩ (fun hHeld' => ?_)
    have Z1 := hb1.size
    clear hK K hHeld hb1
    have hHeld := hHeld'
    clear hHeld'
    try simp only [Act.put, List.setIfInBounds_toArray, List.set_cons_zero, List.set_cons_succ]
    refine wpAnyH_ready (rs := [4, 9]) (by kernel_rfl) (by simp) ?_
    refine AllReadyH.cons (o := ⟨some 7, _, _, _, _, _⟩) rfl (fun K hK => ?_) ?_
    · skip
      go_simp
      have PresK : gres < (x1).heap.size := Gres.lt
      refine Calls.mono (spec_l5Copy l1 A1 n1 c1 lo1 hi1 _ h1 (R1.out.new hHeld.2)) ?_
      rintro e x2 ⟨AK, cK, rfl, GK, hb1⟩
      replace Gres := Gres.new hb1
      replace Gb2 := Gb2.new hb1
      refine hK.out _ _ ⟨hHeld.1.new hb1, below_trans hHeld.2 hb1 (Nat.le_refl _)⟩ (fun hHeld' => ?_)
      have Z2 := hb1.size
      clear hK K hHeld hb1
      have hHeld := hHeld'
      clear hHeld'
      try simp only [Act.put, List.setIfInBounds_toArray, List.set_cons_zero, List.set_cons_succ]
      refine wpAnyH_ready (rs := [8, 9]) (by kernel_rfl) (by simp) ?_
      refine AllReadyH.cons (o := ⟨some 11, _, _, _, _, _⟩) rfl (fun K hK => ?_) ?_
      · skip
        refine step_app0 rfl _ _ _ (by rfl) 107 (.agg #[.int .i64 0, .int .i64 0, .int .i64 0, .int .i64 0, .int .i64 0, .int .i64 0]) 6 48 Try.underlying36 icEdit rfl (by decide) gb2 (by rfl) Gb2 lo2 hi2 A2 n2 c2 (cEdit l2) (by rfl) (R2.out.new hHeld.2) (ocEdit l2) (by unfold maxLen; omega) (by omega) ?_
        intro Av2 cv2 x3 hF hb1
        have Presv2 : gres < (x2).heap.size := Gres.lt
        replace Gres := Gres.new hb1
        replace Gb2 := Gb2.new hb1
        replace GK := GK.new hb1
        have Gv2 := hF
        clear hF
        refine hK.out _ _ ⟨hHeld.1.new hb1, below_trans hHeld.2 hb1 (Nat.le_refl _)⟩ (fun hHeld' => ?_)
        have Z3 := hb1.size
        clear hK K hHeld hb1
        have hHeld := hHeld'
        clear hHeld'
        try simp only [Act.put, List.setIfInBounds_toArray, List.set_cons_zero, List.set_cons_succ]
        refine wpAnyH_ready (rs := [9]) (by kernel_rfl) (by simp) ?_
        refine AllReadyH.cons (o := ⟨some 12, _, _, _, _, _⟩) rfl (fun K hK => ?_) AllReadyH.nil
        go_simp
        have Gb3 := box_new (x3) 3 #[]
        have hb1 := (Below.refl (x3).heap.size (x3)).alloc (Nat.le_refl _) (.cells #[] 3)
        have Lb3 : w.heap.size ≤ (x3).heap.size := by have := (hHeld.1).lt; have := (hHeld.2).size; omega
        have M0b3 : w.heap.size < (x3).heap.size := (hHeld.1).lt
        replace GK := GK.new hb1
        replace Gv2 := Gv2.new hb1
        have Nresb3 : gres < (x3).heap.size := Gres.lt
        replace Gres := Gres.new hb1
        have Nb2b3 : gb2 < (x3).heap.size := Gb2.lt
        replace Gb2 := Gb2.new hb1
        generalize (x3).alloc (.cells #[] 3) = x4 at hb1 Gb3 Gres Gb2 GK Gv2 ⊢
        generalize hg : (x3).heap.size = gb3 at Gb3 Lb3 Nresb3 Nb2b3 M0b3 ⊢
        clear hg
        refine hK.out _ _ ⟨hHeld.1.new hb1, below_trans hHeld.2 hb1 (Nat.le_refl _)⟩ (fun hHeld' => ?_)
        have Z4 := hb1.size
        clear hK K hHeld hb1
        have hHeld := hHeld'
        clear hHeld'
        try simp only [Act.put, List.setIfInBounds_toArray, List.set_cons_zero, List.set_cons_succ]
        refine wpAnyH_ready (rs := [12]) (by kernel_rfl) (by simp) ?_
        refine AllReadyH.cons (o := ⟨some 15, _, _, _, _, _⟩) rfl (fun K hK => ?_) AllReadyH.nil
        refine step_app0 rfl _ _ _ (by rfl) 3 (.int .i64 0) 1 8 Try.underlying24 info_int rfl (by decide) gb3 (by rfl) Gb3 lo3 hi3 A3 n3 c3 (i64s l3) (by rfl) (R3.out.new hHeld.2) (ints_oneCell _ _) (by unfold maxLen; omega) (by omega) ?_
        intro Av3 cv3 x5 hF hb1
        have Presv3 : gres < (x4).heap.size := Gres.lt
        replace Gres := Gres.new hb1
        replace Gb2 := Gb2.new hb1
        replace GK := GK.new hb1
        replace Gv2 := Gv2.new hb1
        replace Gb3 := Gb3.new hb1
        have Gv3 := hF
        clear hF
        refine hK.out _ _ ⟨hHeld.1.new hb1, below_trans hHeld.2 hb1 (Nat.le_refl _)⟩ (fun hHeld' => ?_)
        have Z5 := hb1.size
        clear hK K hHeld hb1
        have hHeld := hHeld'
        clear hHeld'
        try simp only [Act.put, List.setIfInBounds_toArray, List.set_cons_zero, List.set_cons_succ]
        refine wpAnyH_take (i := 15) (oi := ⟨some 18, _, _, _, _, _⟩) (v := ?_) rfl (by kernel_rfl) (by kernel_rfl) (by kernel_rfl) (fun _ _ _ h => h) (Or.inl ⟨by kernel_rfl, ?_⟩) hHeld ?_
        rotate_left
        focus (intro W hS; have c0_0 := (hS.1).at_ (j := 0) rfl; have c0_1 := (hS.1).at_ (j := 1) rfl; have c0_2 := (hS.1).at_ (j := 2) rfl; have c0_3 := (hS.1).at_ (j := 3) rfl; have c0_4 := (hS.1).at_ (j := 4) rfl; have c0_5 := (hS.1).at_ (j := 5) rfl; clear hS; first | (go_simp; done) | (go_simp; with_reducible rfl))
        try simp only [Act.put, List.setIfInBounds_toArray, List.set_cons_zero, List.set_cons_succ]
        refine wpAnyH_ready (rs := [16]) (by kernel_rfl) (by simp) ?_
        refine AllReadyH.cons (o := ⟨none, _, _, _, _, _⟩) rfl (fun K hK => ?_) AllReadyH.nil
        rw [if_pos (by rfl)]
        refine wp_store_row 86 _ _ rfl gres #[.int .i64 s0.f0, .int .i64 s0.f1, .slice AK n1 cK, .slice Av2 n2 cv2, .slice Av3 n3 cv3, .int .i64 p4] rfl rfl 86 _ Gres (by kernel_rfl) (by kernel_rfl) (by kernel_rfl) ?_
        replace Gres := box_row (cs := #[.int .i64 s0.f0, .int .i64 s0.f1, .slice AK n1 cK, .slice Av2 n2 cv2, .slice Av3 n3 cv3, .int .i64 p4]) Gres
        replace Gb2 := box_far (cs := #[.int .i64 s0.f0, .int .i64 s0.f1, .slice AK n1 cK, .slice Av2 n2 cv2, .slice Av3 n3 cv3, .int .i64 p4]) (g := gres) Gb2 (by omega)
        replace Gb3 := box_far (cs := #[.int .i64 s0.f0, .int .i64 s0.f1, .slice AK n1 cK, .slice Av2 n2 cv2, .slice Av3 n3 cv3, .int .i64 p4]) (g := gres) Gb3 (by omega)
        have hc1 := chg_row x5 gres #[.int .i64 s0.f0, .int .i64 s0.f1, .slice AK n1 cK, .slice Av2 n2 cv2, .slice Av3 n3 cv3, .int .i64 p4]
        have hHeld2 : BoxAt (World.setRow x5 gres #[.int .i64 s0.f0, .int .i64 s0.f1, .slice AK n1 cK, .slice Av2 n2 cv2, .slice Av3 n3 cv3, .int .i64 p4]) w.heap.size 86 #[.int .i64 s0.f0, .int .i64 s0.f1, .slice A1 n1 c1, .slice A2 n2 c2, .slice A3 n3 c3, .int .i64 p4] ∧ Below w.heap.size w (World.setRow x5 gres #[.int .i64 s0.f0, .int .i64 s0.f1, .slice AK n1 cK, .slice Av2 n2 cv2, .slice Av3 n3 cv3, .int .i64 p4]) := ⟨hHeld.1.chg hc1 (by omega), below_setRow hHeld.2 (by omega) _⟩
        replace GK := GK.chg hc1 (by omega)
        replace Gv2 := Gv2.chg hc1 (by omega)
        replace Gv3 := Gv3.chg hc1 (by omega)
        clear hc1
        have Z6 : (x5).heap.size ≤ (World.setRow x5 gres #[.int .i64 s0.f0, .int .i64 s0.f1, .slice AK n1 cK, .slice Av2 n2 cv2, .slice Av3 n3 cv3, .int .i64 p4]).heap.size := by simp
        generalize World.setRow x5 gres #[.int .i64 s0.f0, .int .i64 s0.f1, .slice AK n1 cK, .slice Av2 n2 cv2, .slice Av3 n3 cv3, .int .i64 p4] = x6 at hHeld2 Gres Gb2 GK Gv2 Gb3 Gv3 Z6 ⊢
        refine hK.out _ _ hHeld2 (fun hHeld' => ?_)
        clear hHeld2
        clear hK K hHeld
        have hHeld := hHeld'
        clear hHeld'
        try simp only [Act.put, List.setIfInBounds_toArray, List.set_cons_zero, List.set_cons_succ]
        refine wpAnyH_done (by kernel_rfl) ?_ _
        go_wp2_with fail
        have k0 := Gres.at_ (j := 0) rfl
        have k1 := Gres.at_ (j := 1) rfl
        have k2 := Gres.at_ (j := 2) rfl
        have k3 := Gres.at_ (j := 3) rfl
        have k4 := Gres.at_ (j := 4) rfl
        have k5 := Gres.at_ (j := 5) rfl
        have hHB := hHeld.2
        clear hHeld
        exact bodyPost_ret (v := .agg #[.int .i64 s0.f0, .int .i64 s0.f1, .slice AK n1 cK, .slice Av2 n2 cv2, .slice Av3 n3 cv3, .int .i64 p4]) (by simp [results, Try.results102, go_sem, k0, k1, k2, k3, k4, k5]) rfl ⟨AK, Av2, Av3, cK, _, _, cv2, _, _, cv3, _, _, rfl, GK, Gv2, Gv3, Lib.hid (by unfold SepTab; omega), hHB⟩
      refine AllReadyH.cons (o := ⟨some 12, _, _, _, _, _⟩) rfl (fun K hK => ?_) ?_
      · skip
        go_simp
        have Gb3 := box_new (x2) 3 #[]
        have hb1 := (Below.refl (x2).heap.size (x2)).alloc (Nat.le_refl _) (.cells #[] 3)
        have Lb3 : w.heap.size ≤ (x2).heap.size := by have := (hHeld.1).lt; have := (hHeld.2).size; omega
        have M0b3 : w.heap.size < (x2).heap.size := (hHeld.1).lt
        replace GK := GK.new hb1
        have Nresb3 : gres < (x2).heap.size := Gres.lt
        replace Gres := Gres.new hb1
        have Nb2b3 : gb2 < (x2).heap.size := Gb2.lt
        replace Gb2 := Gb2.new hb1
        generalize (x2).alloc (.cells #[] 3) = x3 at hb1 Gb3 Gres Gb2 GK ⊢
        generalize hg : (x2).heap.size = gb3 at Gb3 Lb3 Nresb3 Nb2b3 M0b3 ⊢
        clear hg
        refine hK.out _ _ ⟨hHeld.1.new hb1, below_trans hHeld.2 hb1 (Nat.le_refl _)⟩ (fun hHeld' => ?_)
        have Z3 := hb1.size
        clear hK K hHeld hb1
        have hHeld := hHeld'
        clear hHeld'
        try simp only [Act.put, List.setIfInBounds_toArray, List.set_cons_zero, List.set_cons_succ]
        refine wpAnyH_ready (rs := [8]) (by kernel_rfl) (by simp) ?_
        refine AllReadyH.cons (o := ⟨some 11, _, _, _, _, _⟩) rfl (fun K hK => ?_) AllReadyH.nil
        refine step_app0 rfl _ _ _ (by rfl) 107 (.agg #[.int .i64 0, .int .i64 0, .int .i64 0, .int .i64 0, .int .i64 0, .int .i64 0]) 6 48 Try.underlying36 icEdit rfl (by decide) gb2 (by rfl) Gb2 lo2 hi2 A2 n2 c2 (cEdit l2) (by rfl) (R2.out.new hHeld.2) (ocEdit l2) (by unfold maxLen; omega) (by omega) ?_
        intro Av2 cv2 x4 hF hb1
        have Presv2 : gres < (x3).heap.size := Gres.lt
        replace Gres := Gres.new hb1
        replace Gb2 := Gb2.new hb1
        replace GK := GK.new hb1
        replace Gb3 := Gb3.new hb1
        have Gv2 := hF
        clear hF
        refine hK.out _ _ ⟨hHeld.1.new hb1, below_trans hHeld.2 hb1 (Nat.le_refl _)⟩ (fun hHeld' => ?_)
        have Z4 := hb1.size
        clear hK K hHeld hb1
        have hHeld := hHeld'
        clear hHeld'
        try simp only [Act.put, List.setIfInBounds_toArray, List.set_cons_zero, List.set_cons_succ]
        refine wpAnyH_ready (rs := [12]) (by kernel_rfl) (by simp) ?_
        refine AllReadyH.cons (o := ⟨some 15, _, _, _, _, _⟩) rfl (fun K hK => ?_) AllReadyH.nil
        refine step_app0 rfl _ _ _ (by rfl) 3 (.int .i64 0) 1 8 Try.underlying24 info_int rfl (by decide) gb3 (by rfl) Gb3 lo3 hi3 A3 n3 c3 (i64s l3) (by rfl) (R3.out.new hHeld.2) (ints_oneCell _ _) (by unfold maxLen; omega) (by omega) ?_
        intro Av3 cv3 x5 hF hb1
        have Presv3 : gres < (x4).heap.size := Gres.lt
        replace Gres := Gres.new hb1
        replace Gb2 := Gb2.new hb1
        replace GK := GK.new hb1
        replace Gb3 := Gb3.new hb1
        replace Gv2 := Gv2.new hb1
        have Gv3 := hF
        clear hF
        refine hK.out _ _ ⟨hHeld.1.new hb1, below_trans hHeld.2 hb1 (Nat.le_refl _)⟩ (fun hHeld' => ?_)
        have Z5 := hb1.size
        clear hK K hHeld hb1
        have hHeld := hHeld'
        clear hHeld'
        try simp only [Act.put, List.setIfInBounds_toArray, List.set_cons_zero, List.set_cons_succ]
        refine wpAnyH_take (i := 15) (oi := ⟨some 18, _, _, _, _, _⟩) (v := ?_) rfl (by kernel_rfl) (by kernel_rfl) (by kernel_rfl) (fun _ _ _ h => h) (Or.inl ⟨by kernel_rfl, ?_⟩) hHeld ?_
        rotate_left
        focus (intro W hS; have c0_0 := (hS.1).at_ (j := 0) rfl; have c0_1 := (hS.1).at_ (j := 1) rfl; have c0_2 := (hS.1).at_ (j := 2) rfl; have c0_3 := (hS.1).at_ (j := 3) rfl; have c0_4 := (hS.1).at_ (j := 4) rfl; have c0_5 := (hS.1).at_ (j := 5) rfl; clear hS; first | (go_simp; done) | (go_simp; with_reducible rfl))
        try simp only [Act.put, List.setIfInBounds_toArray, List.set_cons_zero, List.set_cons_succ]
        refine wpAnyH_ready (rs := [16]) (by kernel_rfl) (by simp) ?_
        refine AllReadyH.cons (o := ⟨none, _, _, _, _, _⟩) rfl (fun K hK => ?_) AllReadyH.nil
        rw [if_pos (by rfl)]
        refine wp_store_row 86 _ _ rfl gres #[.int .i64 s0.f0, .int .i64 s0.f1, .slice AK n1 cK, .slice Av2 n2 cv2, .slice Av3 n3 cv3, .int .i64 p4] rfl rfl 86 _ Gres (by kernel_rfl) (by kernel_rfl) (by kernel_rfl) ?_
        replace Gres := box_row (cs := #[.int .i64 s0.f0, .int .i64 s0.f1, .slice AK n1 cK, .slice Av2 n2 cv2, .slice Av3 n3 cv3, .int .i64 p4]) Gres
        replace Gb2 := box_far (cs := #[.int .i64 s0.f0, .int .i64 s0.f1, .slice AK n1 cK, .slice Av2 n2 cv2, .slice Av3 n3 cv3, .int .i64 p4]) (g := gres) Gb2 (by omega)
        replace Gb3 := box_far (cs := #[.int .i64 s0.f0, .int .i64 s0.f1, .slice AK n1 cK, .slice Av2 n2 cv2, .slice Av3 n3 cv3, .int .i64 p4]) (g := gres) Gb3 (by omega)
        have hc1 := chg_row x5 gres #[.int .i64 s0.f0, .int .i64 s0.f1, .slice AK n1 cK, .slice Av2 n2 cv2, .slice Av3 n3 cv3, .int .i64 p4]
        have hHeld2 : BoxAt (World.setRow x5 gres #[.int .i64 s0.f0, .int .i64 s0.f1, .slice AK n1 cK, .slice Av2 n2 cv2, .slice Av3 n3 cv3, .int .i64 p4]) w.heap.size 86 #[.int .i64 s0.f0, .int .i64 s0.f1, .slice A1 n1 c1, .slice A2 n2 c2, .slice A3 n3 c3, .int .i64 p4] ∧ Below w.heap.size w (World.setRow x5 gres #[.int .i64 s0.f0, .int .i64 s0.f1, .slice AK n1 cK, .slice Av2 n2 cv2, .slice Av3 n3 cv3, .int .i64 p4]) := ⟨hHeld.1.chg hc1 (by omega), below_setRow hHeld.2 (by omega) _⟩
        replace GK := GK.chg hc1 (by omega)
        replace Gv2 := Gv2.chg hc1 (by omega)
        replace Gv3 := Gv3.chg hc1 (by omega)
        clear hc1
        have Z6 : (x5).heap.size ≤ (World.setRow x5 gres #[.int .i64 s0.f0, .int .i64 s0.f1, .slice AK n1 cK, .slice Av2 n2 cv2, .slice Av3 n3 cv3, .int .i64 p4]).heap.size := by simp
        generalize World.setRow x5 gres #[.int .i64 s0.f0, .int .i64 s0.f1, .slice AK n1 cK, .slice Av2 n2 cv2, .slice Av3 n3 cv3, .int .i64 p4] = x6 at hHeld2 Gres Gb2 GK Gb3 Gv2 Gv3 Z6 ⊢
        refine hK.out _ _ hHeld2 (fun hHeld' => ?_)
        clear hHeld2
        clear hK K hHeld
        have hHeld := hHeld'
        clear hHeld'
        try simp only [Act.put, List.setIfInBounds_toArray, List.set_cons_zero, List.set_cons_succ]
        refine wpAnyH_done (by kernel_rfl) ?_ _
        go_wp2_with fail
        have k0 := Gres.at_ (j := 0) rfl
        have k1 := Gres.at_ (j := 1) rfl
        have k2 := Gres.at_ (j := 2) rfl
        have k3 := Gres.at_ (j := 3) rfl
        have k4 := Gres.at_ (j := 4) rfl
        have k5 := Gres.at_ (j := 5) rfl
        have hHB := hHeld.2
        clear hHeld
        exact bodyPost_ret (v := .agg #[.int .i64 s0.f0, .int .i64 s0.f1, .slice AK n1 cK, .slice Av2 n2 cv2, .slice Av3 n3 cv3, .int .i64 p4]) (by simp [results, Try.results102, go_sem, k0, k1, k2, k3, k4, k5]) rfl ⟨AK, Av2, Av3, cK, _, _, cv2, _, _, cv3, _, _, rfl, GK, Gv2, Gv3, Lib.hid (by unfold SepTab; omega), hHB⟩
      exact AllReadyH.nil
    refine AllReadyH.cons (o := ⟨some 12, _, _, _, _, _⟩) rfl (fun K hK => ?_) ?_
    · skip
      go_simp
      have Gb3 := box_new (x1) 3 #[]
      have hb1 := (Below.refl (x1).heap.size (x1)).alloc (Nat.le_refl _) (.cells #[] 3)
      have Lb3 : w.heap.size ≤ (x1).heap.size := by have := (hHeld.1).lt; have := (hHeld.2).size; omega
      have M0b3 : w.heap.size < (x1).heap.size := (hHeld.1).lt
      have Nresb3 : gres < (x1).heap.size := Gres.lt
      replace Gres := Gres.new hb1
      have Nb2b3 : gb2 < (x1).heap.size := Gb2.lt
      replace Gb2 := Gb2.new hb1
      generalize (x1).alloc (.cells #[] 3) = x2 at hb1 Gb3 Gres Gb2 ⊢
      generalize hg : (x1).heap.size = gb3 at Gb3 Lb3 Nresb3 Nb2b3 M0b3 ⊢
      clear hg
      refine hK.out _ _ ⟨hHeld.1.new hb1, below_trans hHeld.2 hb1 (Nat.le_refl _)⟩ (fun hHeld' => ?_)
      have Z2 := hb1.size
      clear hK K hHeld hb1
      have hHeld := hHeld'
      clear hHeld'
      try simp only [Act.put, List.setIfInBounds_toArray, List.set_cons_zero, List.set_cons_succ]
      refine wpAnyH_ready (rs := [4]) (by kernel_rfl) (by simp) ?_
      refine AllReadyH.cons (o := ⟨some 7, _, _, _, _, _⟩) rfl (fun K hK => ?_) AllReadyH.nil
      go_simp
      have PresK : gres < (x2).heap.size := Gres.lt
      refine Calls.mono (spec_l5Copy l1 A1 n1 c1 lo1 hi1 _ h1 (R1.out.new hHeld.2)) ?_
      rintro e x3 ⟨AK, cK, rfl, GK, hb1⟩
      replace Gres := Gres.new hb1
      replace Gb2 := Gb2.new hb1
      replace Gb3 := Gb3.new hb1
      refine hK.out _ _ ⟨hHeld.1.new hb1, below_trans hHeld.2 hb1 (Nat.le_refl _)⟩ (fun hHeld' => ?_)
      have Z3 := hb1.size
      clear hK K hHeld hb1
      have hHeld := hHeld'
      clear hHeld'
      try simp only [Act.put, List.setIfInBounds_toArray, List.set_cons_zero, List.set_cons_succ]
      refine wpAnyH_ready (rs := [8]) (by kernel_rfl) (by simp) ?_
      refine AllReadyH.cons (o := ⟨some 11, _, _, _, _, _⟩) rfl (fun K hK => ?_) AllReadyH.nil
      refine step_app0 rfl _ _ _ (by rfl) 107 (.agg #[.int .i64 0, .int .i64 0, .int .i64 0, .int .i64 0, .int .i64 0, .int .i64 0]) 6 48 Try.underlying36 icEdit rfl (by decide) gb2 (by rfl) Gb2 lo2 hi2 A2 n2 c2 (cEdit l2) (by rfl) (R2.out.new hHeld.2) (ocEdit l2) (by unfold maxLen; omega) (by omega) ?_
      intro Av2 cv2 x4 hF hb1
      have Presv2 : gres < (x3).heap.size := Gres.lt
      replace Gres := Gres.new hb1
      replace Gb2 := Gb2.new hb1
      replace Gb3 := Gb3.new hb1
      replace GK := GK.new hb1
      have Gv2 := hF
      clear hF
      refine hK.out _ _ ⟨hHeld.1.new hb1, below_trans hHeld.2 hb1 (Nat.le_refl _)⟩ (fun hHeld' => ?_)
      have Z4 := hb1.size
      clear hK K hHeld hb1
      have hHeld := hHeld'
      clear hHeld'
      try simp only [Act.put, List.setIfInBounds_toArray, List.set_cons_zero, List.set_cons_succ]
      refine wpAnyH_ready (rs := [12]) (by kernel_rfl) (by simp) ?_
      refine AllReadyH.cons (o := ⟨some 15, _, _, _, _, _⟩) rfl (fun K hK => ?_) AllReadyH.nil
      refine step_app0 rfl _ _ _ (by rfl) 3 (.int .i64 0) 1 8 Try.underlying24 info_int rfl (by decide) gb3 (by rfl) Gb3 lo3 hi3 A3 n3 c3 (i64s l3) (by rfl) (R3.out.new hHeld.2) (ints_oneCell _ _) (by unfold maxLen; omega) (by omega) ?_
      intro Av3 cv3 x5 hF hb1
      have Presv3 : gres < (x4).heap.size := Gres.lt
      replace Gres := Gres.new hb1
      replace Gb2 := Gb2.new hb1
      replace Gb3 := Gb3.new hb1
      replace GK := GK.new hb1
      replace Gv2 := Gv2.new hb1
      have Gv3 := hF
      clear hF
      refine hK.out _ _ ⟨hHeld.1.new hb1, below_trans hHeld.2 hb1 (Nat.le_refl _)⟩ (fun hHeld' => ?_)
      have Z5 := hb1.size
      clear hK K hHeld hb1
      have hHeld := hHeld'
      clear hHeld'
      try simp only [Act.put, List.setIfInBounds_toArray, List.set_cons_zero, List.set_cons_succ]
      refine wpAnyH_take (i := 15) (oi := ⟨some 18, _, _, _, _, _⟩) (v := ?_) rfl (by kernel_rfl) (by kernel_rfl) (by kernel_rfl) (fun _ _ _ h => h) (Or.inl ⟨by kernel_rfl, ?_⟩) hHeld ?_
      rotate_left
      focus (intro W hS; have c0_0 := (hS.1).at_ (j := 0) rfl; have c0_1 := (hS.1).at_ (j := 1) rfl; have c0_2 := (hS.1).at_ (j := 2) rfl; have c0_3 := (hS.1).at_ (j := 3) rfl; have c0_4 := (hS.1).at_ (j := 4) rfl; have c0_5 := (hS.1).at_ (j := 5) rfl; clear hS; first | (go_simp; done) | (go_simp; with_reducible rfl))
      try simp only [Act.put, List.setIfInBounds_toArray, List.set_cons_zero, List.set_cons_succ]
      refine wpAnyH_ready (rs := [16]) (by kernel_rfl) (by simp) ?_
      refine AllReadyH.cons (o := ⟨none, _, _, _, _, _⟩) rfl (fun K hK => ?_) AllReadyH.nil
      rw [if_pos (by rfl)]
      refine wp_store_row 86 _ _ rfl gres #[.int .i64 s0.f0, .int .i64 s0.f1, .slice AK n1 cK, .slice Av2 n2 cv2, .slice Av3 n3 cv3, .int .i64 p4] rfl rfl 86 _ Gres (by kernel_rfl) (by kernel_rfl) (by kernel_rfl) ?_
      replace Gres := box_row (cs := #[.int .i64 s0.f0, .int .i64 s0.f1, .slice AK n1 cK, .slice Av2 n2 cv2, .slice Av3 n3 cv3, .int .i64 p4]) Gres
      replace Gb2 := box_far (cs := #[.int .i64 s0.f0, .int .i64 s0.f1, .slice AK n1 cK, .slice Av2 n2 cv2, .slice Av3 n3 cv3, .int .i64 p4]) (g := gres) Gb2 (by omega)
      replace Gb3 := box_far (cs := #[.int .i64 s0.f0, .int .i64 s0.f1, .slice AK n1 cK, .slice Av2 n2 cv2, .slice Av3 n3 cv3, .int .i64 p4]) (g := gres) Gb3 (by omega)
      have hc1 := chg_row x5 gres #[.int .i64 s0.f0, .int .i64 s0.f1, .slice AK n1 cK, .slice Av2 n2 cv2, .slice Av3 n3 cv3, .int .i64 p4]
      have hHeld2 : BoxAt (World.setRow x5 gres #[.int .i64 s0.f0, .int .i64 s0.f1, .slice AK n1 cK, .slice Av2 n2 cv2, .slice Av3 n3 cv3, .int .i64 p4]) w.heap.size 86 #[.int .i64 s0.f0, .int .i64 s0.f1, .slice A1 n1 c1, .slice A2 n2 c2, .slice A3 n3 c3, .int .i64 p4] ∧ Below w.heap.size w (World.setRow x5 gres #[.int .i64 s0.f0, .int .i64 s0.f1, .slice AK n1 cK, .slice Av2 n2 cv2, .slice Av3 n3 cv3, .int .i64 p4]) := ⟨hHeld.1.chg hc1 (by omega), below_setRow hHeld.2 (by omega) _⟩
      replace GK := GK.chg hc1 (by omega)
      replace Gv2 := Gv2.chg hc1 (by omega)
      replace Gv3 := Gv3.chg hc1 (by omega)
      clear hc1
      have Z6 : (x5).heap.size ≤ (World.setRow x5 gres #[.int .i64 s0.f0, .int .i64 s0.f1, .slice AK n1 cK, .slice Av2 n2 cv2, .slice Av3 n3 cv3, .int .i64 p4]).heap.size := by simp
      generalize World.setRow x5 gres #[.int .i64 s0.f0, .int .i64 s0.f1, .slice AK n1 cK, .slice Av2 n2 cv2, .slice Av3 n3 cv3, .int .i64 p4] = x6 at hHeld2 Gres Gb2 Gb3 GK Gv2 Gv3 Z6 ⊢
      refine hK.out _ _ hHeld2 (fun hHeld' => ?_)
      clear hHeld2
      clear hK K hHeld
      have hHeld := hHeld'
      clear hHeld'
      try simp only [Act.put, List.setIfInBounds_toArray, List.set_cons_zero, List.set_cons_succ]
      refine wpAnyH_done (by kernel_rfl) ?_ _
      go_wp2_with fail
      have k0 := Gres.at_ (j := 0) rfl
      have k1 := Gres.at_ (j := 1) rfl
      have k2 := Gres.at_ (j := 2) rfl
      have k3 := Gres.at_ (j := 3) rfl
      have k4 := Gres.at_ (j := 4) rfl
      have k5 := Gres.at_ (j := 5) rfl
      have hHB := hHeld.2
      clear hHeld
      exact bodyPost_ret (v := .agg #[.int .i64 s0.f0, .int .i64 s0.f1, .slice AK n1 cK, .slice Av2 n2 cv2, .slice Av3 n3 cv3, .int .i64 p4]) (by simp [results, Try.results102, go_sem, k0, k1, k2, k3, k4, k5]) rfl ⟨AK, Av2, Av3, cK, _, _, cv2, _, _, cv3, _, _, rfl, GK, Gv2, Gv3, Lib.hid (by unfold SepTab; omega), hHB⟩
    exact AllReadyH.nil
  refine AllReadyH.cons (o := ⟨some 12, _, _, _, _, _⟩) rfl (fun K hK => ?_) ?_
  · skip
    go_simp
    have Gb3 := box_new (x0) 3 #[]
    have hb1 := (Below.refl (x0).heap.size (x0)).alloc (Nat.le_refl _) (.cells #[] 3)
    have Lb3 : w.heap.size ≤ (x0).heap.size := by have := (hHeld.1).lt; have := (hHeld.2).size; omega
    have M0b3 : w.heap.size < (x0).heap.size := (hHeld.1).lt
    have Nresb3 : gres < (x0).heap.size := Gres.lt
    replace Gres := Gres.new hb1
    generalize (x0).alloc (.cells #[] 3) = x1 at hb1 Gb3 Gres ⊢
    generalize hg : (x0).heap.size = gb3 at Gb3 Lb3 Nresb3 M0b3 ⊢
    clear hg
    refine hK.out _ _ ⟨hHeld.1.new hb1, below_trans hHeld.2 hb1 (Nat.le_refl _)⟩ (fun hHeld' => ?_)
    have Z1 := hb1.size
    clear hK K hHeld hb1
    have hHeld := hHeld'
    clear hHeld'
    try simp only [Act.put, List.setIfInBounds_toArray, List.set_cons_zero, List.set_cons_succ]
    refine wpAnyH_ready (rs := [4, 5]) (by kernel_rfl) (by simp) ?_
    refine AllReadyH.cons (o := ⟨some 7, _, _, _, _, _⟩) rfl (fun K hK => ?_) ?_
    · skip
      go_simp
      have PresK : gres < (x1).heap.size := Gres.lt
      refine Calls.mono (spec_l5Copy l1 A1 n1 c1 lo1 hi1 _ h1 (R1.out.new hHeld.2)) ?_
      rintro e x2 ⟨AK, cK, rfl, GK, hb1⟩
      replace Gres := Gres.new hb1
      replace Gb3 := Gb3.new hb1
      refine hK.out _ _ ⟨hHeld.1.new hb1, below_trans hHeld.2 hb1 (Nat.le_refl _)⟩ (fun hHeld' => ?_)
      have Z2 := hb1.size
      clear hK K hHeld hb1
      have hHeld := hHeld'
      clear hHeld'
      try simp only [Act.put, List.setIfInBounds_toArray, List.set_cons_zero, List.set_cons_succ]
      refine wpAnyH_ready (rs := [5]) (by kernel_rfl) (by simp) ?_
      refine AllReadyH.cons (o := ⟨some 8, _, _, _, _, _⟩) rfl (fun K hK => ?_) AllReadyH.nil
      go_simp
      have Gb2 := box_new (x2) 107 #[]
      have hb1 := (Below.refl (x2).heap.size (x2)).alloc (Nat.le_refl _) (.cells #[] 107)
      have Lb2 : w.heap.size ≤ (x2).heap.size := by have := (hHeld.1).lt; have := (hHeld.2).size; omega
      have M0b2 : w.heap.size < (x2).heap.size := (hHeld.1).lt
      replace GK := GK.new hb1
      have Nresb2 : gres < (x2).heap.size := Gres.lt
      replace Gres := Gres.new hb1
      have Nb3b2 : gb3 < (x2).heap.size := Gb3.lt
      replace Gb3 := Gb3.new hb1
      generalize (x2).alloc (.cells #[] 107) = x3 at hb1 Gb2 Gres Gb3 GK ⊢
      generalize hg : (x2).heap.size = gb2 at Gb2 Lb2 Nresb2 Nb3b2 M0b2 ⊢
      clear hg
      refine hK.out _ _ ⟨hHeld.1.new hb1, below_trans hHeld.2 hb1 (Nat.le_refl _)⟩ (fun hHeld' => ?_)
      have Z3 := hb1.size
      clear hK K hHeld hb1
      have hHeld := hHeld'
      clear hHeld'
      try simp only [Act.put, List.setIfInBounds_toArray, List.set_cons_zero, List.set_cons_succ]
      refine wpAnyH_ready (rs := [8]) (by kernel_rfl) (by simp) ?_
      refine AllReadyH.cons (o := ⟨some 11, _, _, _, _, _⟩) rfl (fun K hK => ?_) AllReadyH.nil
      refine step_app0 rfl _ _ _ (by rfl) 107 (.agg #[.int .i64 0, .int .i64 0, .int .i64 0, .int .i64 0, .int .i64 0, .int .i64 0]) 6 48 Try.underlying36 icEdit rfl (by decide) gb2 (by rfl) Gb2 lo2 hi2 A2 n2 c2 (cEdit l2) (by rfl) (R2.out.new hHeld.2) (ocEdit l2) (by unfold maxLen; omega) (by omega) ?_
      intro Av2 cv2 x4 hF hb1
      have Presv2 : gres < (x3).heap.size := Gres.lt
      replace Gres := Gres.new hb1
      replace Gb3 := Gb3.new hb1
      replace GK := GK.new hb1
      replace Gb2 := Gb2.new hb1
      have Gv2 := hF
      clear hF
      refine hK.out _ _ ⟨hHeld.1.new hb1, below_trans hHeld.2 hb1 (Nat.le_refl _)⟩ (fun hHeld' => ?_)
      have Z4 := hb1.size
      clear hK K hHeld hb1
      have hHeld := hHeld'
      clear hHeld'
      try simp only [Act.put, List.setIfInBounds_toArray, List.set_cons_zero, List.set_cons_succ]
      refine wpAnyH_ready (rs := [12]) (by kernel_rfl) (by simp) ?_
      refine AllReadyH.cons (o := ⟨some 15, _, _, _, _, _⟩) rfl (fun K hK => ?_) AllReadyH.nil
      refine step_app0 rfl _ _ _ (by rfl) 3 (.int .i64 0) 1 8 Try.underlying24 info_int rfl (by decide) gb3 (by rfl) Gb3 lo3 hi3 A3 n3 c3 (i64s l3) (by rfl) (R3.out.new hHeld.2) (ints_oneCell _ _) (by unfold maxLen; omega) (by omega) ?_
      intro Av3 cv3 x5 hF hb1
      have Presv3 : gres < (x4).heap.size := Gres.lt
      replace Gres := Gres.new hb1
      replace Gb3 := Gb3.new hb1
      replace GK := GK.new hb1
      replace Gb2 := Gb2.new hb1
      replace Gv2 := Gv2.new hb1
      have Gv3 := hF
      clear hF
      refine hK.out _ _ ⟨hHeld.1.new hb1, below_trans hHeld.2 hb1 (Nat.le_refl _)⟩ (fun hHeld' => ?_)
      have Z5 := hb1.size
      clear hK K hHeld hb1
      have hHeld := hHeld'
      clear hHeld'
      try simp only [Act.put, List.setIfInBounds_toArray, List.set_cons_zero, List.set_cons_succ]
      refine wpAnyH_take (i := 15) (oi := ⟨some 18, _, _, _, _, _⟩) (v := ?_) rfl (by kernel_rfl) (by kernel_rfl) (by kernel_rfl) (fun _ _ _ h => h) (Or.inl ⟨by kernel_rfl, ?_⟩) hHeld ?_
      rotate_left
      focus (intro W hS; have c0_0 := (hS.1).at_ (j := 0) rfl; have c0_1 := (hS.1).at_ (j := 1) rfl; have c0_2 := (hS.1).at_ (j := 2) rfl; have c0_3 := (hS.1).at_ (j := 3) rfl; have c0_4 := (hS.1).at_ (j := 4) rfl; have c0_5 := (hS.1).at_ (j := 5) rfl; clear hS; first | (go_simp; done) | (go_simp; with_reducible rfl))
      try simp only [Act.put, List.setIfInBounds_toArray, List.set_cons_zero, List.set_cons_succ]
      refine wpAnyH_ready (rs := [16]) (by kernel_rfl) (by simp) ?_
      refine AllReadyH.cons (o := ⟨none, _, _, _, _, _⟩) rfl (fun K hK => ?_) AllReadyH.nil
      rw [if_pos (by rfl)]
      refine wp_store_row 86 _ _ rfl gres #[.int .i64 s0.f0, .int .i64 s0.f1, .slice AK n1 cK, .slice Av2 n2 cv2, .slice Av3 n3 cv3, .int .i64 p4] rfl rfl 86 _ Gres (by kernel_rfl) (by kernel_rfl) (by kernel_rfl) ?_
      replace Gres := box_row (cs := #[.int .i64 s0.f0, .int .i64 s0.f1, .slice AK n1 cK, .slice Av2 n2 cv2, .slice Av3 n3 cv3, .int .i64 p4]) Gres
      replace Gb3 := box_far (cs := #[.int .i64 s0.f0, .int .i64 s0.f1, .slice AK n1 cK, .slice Av2 n2 cv2, .slice Av3 n3 cv3, .int .i64 p4]) (g := gres) Gb3 (by omega)
      replace Gb2 := box_far (cs := #[.int .i64 s0.f0, .int .i64 s0.f1, .slice AK n1 cK, .slice Av2 n2 cv2, .slice Av3 n3 cv3, .int .i64 p4]) (g := gres) Gb2 (by omega)
      have hc1 := chg_row x5 gres #[.int .i64 s0.f0, .int .i64 s0.f1, .slice AK n1 cK, .slice Av2 n2 cv2, .slice Av3 n3 cv3, .int .i64 p4]
      have hHeld2 : BoxAt (World.setRow x5 gres #[.int .i64 s0.f0, .int .i64 s0.f1, .slice AK n1 cK, .slice Av2 n2 cv2, .slice Av3 n3 cv3, .int .i64 p4]) w.heap.size 86 #[.int .i64 s0.f0, .int .i64 s0.f1, .slice A1 n1 c1, .slice A2 n2 c2, .slice A3 n3 c3, .int .i64 p4] ∧ Below w.heap.size w (World.setRow x5 gres #[.int .i64 s0.f0, .int .i64 s0.f1, .slice AK n1 cK, .slice Av2 n2 cv2, .slice Av3 n3 cv3, .int .i64 p4]) := ⟨hHeld.1.chg hc1 (by omega), below_setRow hHeld.2 (by omega) _⟩
      replace GK := GK.chg hc1 (by omega)
      replace Gv2 := Gv2.chg hc1 (by omega)
      replace Gv3 := Gv3.chg hc1 (by omega)
      clear hc1
      have Z6 : (x5).heap.size ≤ (World.setRow x5 gres #[.int .i64 s0.f0, .int .i64 s0.f1, .slice AK n1 cK, .slice Av2 n2 cv2, .slice Av3 n3 cv3, .int .i64 p4]).heap.size := by simp
      generalize World.setRow x5 gres #[.int .i64 s0.f0, .int .i64 s0.f1, .slice AK n1 cK, .slice Av2 n2 cv2, .slice Av3 n3 cv3, .int .i64 p4] = x6 at hHeld2 Gres Gb3 GK Gb2 Gv2 Gv3 Z6 ⊢
      refine hK.out _ _ hHeld2 (fun hHeld' => ?_)
      clear hHeld2
      clear hK K hHeld
      have hHeld := hHeld'
      clear hHeld'
      try simp only [Act.put, List.setIfInBounds_toArray, List.set_cons_zero, List.set_cons_succ]
      refine wpAnyH_done (by kernel_rfl) ?_ _
      go_wp2_with fail
      have k0 := Gres.at_ (j := 0) rfl
      have k1 := Gres.at_ (j := 1) rfl
      have k2 := Gres.at_ (j := 2) rfl
      have k3 := Gres.at_ (j := 3) rfl
      have k4 := Gres.at_ (j := 4) rfl
      have k5 := Gres.at_ (j := 5) rfl
      have hHB := hHeld.2
      clear hHeld
      exact bodyPost_ret (v := .agg #[.int .i64 s0.f0, .int .i64 s0.f1, .slice AK n1 cK, .slice Av2 n2 cv2, .slice Av3 n3 cv3, .int .i64 p4]) (by simp [results, Try.results102, go_sem, k0, k1, k2, k3, k4, k5]) rfl ⟨AK, Av2, Av3, cK, _, _, cv2, _, _, cv3, _, _, rfl, GK, Gv2, Gv3, Lib.hid (by unfold SepTab; omega), hHB⟩
    refine AllReadyH.cons (o := ⟨some 8, _, _, _, _, _⟩) rfl (fun K hK => ?_) ?_
    · skip
      go_simp
      have Gb2 := box_new (x1) 107 #[]
      have hb1 := (Below.refl (x1).heap.size (x1)).alloc (Nat.le_refl _) (.cells #[] 107)
      have Lb2 : w.heap.size ≤ (x1).heap.size := by have := (hHeld.1).lt; have := (hHeld.2).size; omega
      have M0b2 : w.heap.size < (x1).heap.size := (hHeld.1).lt
      have Nresb2 : gres < (x1).heap.size := Gres.lt
      replace Gres := Gres.new hb1
      have Nb3b2 : gb3 < (x1).heap.size := Gb3.lt
      replace Gb3 := Gb3.new hb1
      generalize (x1).alloc (.cells #[] 107) = x2 at hb1 Gb2 Gres Gb3 ⊢
      generalize hg : (x1).heap.size = gb2 at Gb2 Lb2 Nresb2 Nb3b2 M0b2 ⊢
      clear hg
      refine hK.out _ _ ⟨hHeld.1.new hb1, below_trans hHeld.2 hb1 (Nat.le_refl _)⟩ (fun hHeld' => ?_)
      have Z2 := hb1.size
      clear hK K hHeld hb1
      have hHeld := hHeld'
      clear hHeld'
      try simp only [Act.put, List.setIfInBounds_toArray, List.set_cons_zero, List.set_cons_succ]
      refine wpAnyH_ready (rs := [4]) (by kernel_rfl) (by simp) ?_
      refine AllReadyH.cons (o := ⟨some 7, _, _, _, _, _⟩) rfl (fun K hK => ?_) AllReadyH.nil
      go_simp
      have PresK : gres < (x2).heap.size := Gres.lt
      refine Calls.mono (spec_l5Copy l1 A1 n1 c1 lo1 hi1 _ h1 (R1.out.new hHeld.2)) ?_
      rintro e x3 ⟨AK, cK, rfl, GK, hb1⟩
      replace Gres := Gres.new hb1
      replace Gb3 := Gb3.new hb1
      replace Gb2 := Gb2.new hb1
      refine hK.out _ _ ⟨hHeld.1.new hb1, below_trans hHeld.2 hb1 (Nat.le_refl _)⟩ (fun hHeld' => ?_)
      have Z3 := hb1.size
      clear hK K hHeld hb1
      have hHeld := hHeld'
      clear hHeld'
      try simp only [Act.put, List.setIfInBounds_toArray, List.set_cons_zero, List.set_cons_succ]
      refine wpAnyH_ready (rs := [8]) (by kernel_rfl) (by simp) ?_
      refine AllReadyH.cons (o := ⟨some 11, _, _, _, _, _⟩) rfl (fun K hK => ?_) AllReadyH.nil
      refine step_app0 rfl _ _ _ (by rfl) 107 (.agg #[.int .i64 0, .int .i64 0, .int .i64 0, .int .i64 0, .int .i64 0, .int .i64 0]) 6 48 Try.underlying36 icEdit rfl (by decide) gb2 (by rfl) Gb2 lo2 hi2 A2 n2 c2 (cEdit l2) (by rfl) (R2.out.new hHeld.2) (ocEdit l2) (by unfold maxLen; omega) (by omega) ?_
      intro Av2 cv2 x4 hF hb1
      have Presv2 : gres < (x3).heap.size := Gres.lt
      replace Gres := Gres.new hb1
      replace Gb3 := Gb3.new hb1
      replace Gb2 := Gb2.new hb1
      replace GK := GK.new hb1
      have Gv2 := hF
      clear hF
      refine hK.out _ _ ⟨hHeld.1.new hb1, below_trans hHeld.2 hb1 (Nat.le_refl _)⟩ (fun hHeld' => ?_)
      have Z4 := hb1.size
      clear hK K hHeld hb1
      have hHeld := hHeld'
      clear hHeld'
      try simp only [Act.put, List.setIfInBounds_toArray, List.set_cons_zero, List.set_cons_succ]
      refine wpAnyH_ready (rs := [12]) (by kernel_rfl) (by simp) ?_
      refine AllReadyH.cons (o := ⟨some 15, _, _, _, _, _⟩) rfl (fun K hK => ?_) AllReadyH.nil
      refine step_app0 rfl _ _ _ (by rfl) 3 (.int .i64 0) 1 8 Try.underlying24 info_int rfl (by decide) gb3 (by rfl) Gb3 lo3 hi3 A3 n3 c3 (i64s l3) (by rfl) (R3.out.new hHeld.2) (ints_oneCell _ _) (by unfold maxLen; omega) (by omega) ?_
      intro Av3 cv3 x5 hF hb1
      have Presv3 : gres < (x4).heap.size := Gres.lt
      replace Gres := Gres.new hb1
      replace Gb3 := Gb3.new hb1
      replace Gb2 := Gb2.new hb1
      replace GK := GK.new hb1
      replace Gv2 := Gv2.new hb1
      have Gv3 := hF
      clear hF
      refine hK.out _ _ ⟨hHeld.1.new hb1, below_trans hHeld.2 hb1 (Nat.le_refl _)⟩ (fun hHeld' => ?_)
      have Z5 := hb1.size
      clear hK K hHeld hb1
      have hHeld := hHeld'
      clear hHeld'
      try simp only [Act.put, List.setIfInBounds_toArray, List.set_cons_zero, List.set_cons_succ]
      refine wpAnyH_take (i := 15) (oi := ⟨some 18, _, _, _, _, _⟩) (v := ?_) rfl (by kernel_rfl) (by kernel_rfl) (by kernel_rfl) (fun _ _ _ h => h) (Or.inl ⟨by kernel_rfl, ?_⟩) hHeld ?_
      rotate_left
      focus (intro W hS; have c0_0 := (hS.1).at_ (j := 0) rfl; have c0_1 := (hS.1).at_ (j := 1) rfl; have c0_2 := (hS.1).at_ (j := 2) rfl; have c0_3 := (hS.1).at_ (j := 3) rfl; have c0_4 := (hS.1).at_ (j := 4) rfl; have c0_5 := (hS.1).at_ (j := 5) rfl; clear hS; first | (go_simp; done) | (go_simp; with_reducible rfl))
      try simp only [Act.put, List.setIfInBounds_toArray, List.set_cons_zero, List.set_cons_succ]
      refine wpAnyH_ready (rs := [16]) (by kernel_rfl) (by simp) ?_
      refine AllReadyH.cons (o := ⟨none, _, _, _, _, _⟩) rfl (fun K hK => ?_) AllReadyH.nil
      rw [if_pos (by rfl)]
      refine wp_store_row 86 _ _ rfl gres #[.int .i64 s0.f0, .int .i64 s0.f1, .slice AK n1 cK, .slice Av2 n2 cv2, .slice Av3 n3 cv3, .int .i64 p4] rfl rfl 86 _ Gres (by kernel_rfl) (by kernel_rfl) (by kernel_rfl) ?_
      replace Gres := box_row (cs := #[.int .i64 s0.f0, .int .i64 s0.f1, .slice AK n1 cK, .slice Av2 n2 cv2, .slice Av3 n3 cv3, .int .i64 p4]) Gres
      replace Gb3 := box_far (cs := #[.int .i64 s0.f0, .int .i64 s0.f1, .slice AK n1 cK, .slice Av2 n2 cv2, .slice Av3 n3 cv3, .int .i64 p4]) (g := gres) Gb3 (by omega)
      replace Gb2 := box_far (cs := #[.int .i64 s0.f0, .int .i64 s0.f1, .slice AK n1 cK, .slice Av2 n2 cv2, .slice Av3 n3 cv3, .int .i64 p4]) (g := gres) Gb2 (by omega)
      have hc1 := chg_row x5 gres #[.int .i64 s0.f0, .int .i64 s0.f1, .slice AK n1 cK, .slice Av2 n2 cv2, .slice Av3 n3 cv3, .int .i64 p4]
      have hHeld2 : BoxAt (World.setRow x5 gres #[.int .i64 s0.f0, .int .i64 s0.f1, .slice AK n1 cK, .slice Av2 n2 cv2, .slice Av3 n3 cv3, .int .i64 p4]) w.heap.size 86 #[.int .i64 s0.f0, .int .i64 s0.f1, .slice A1 n1 c1, .slice A2 n2 c2, .slice A3 n3 c3, .int .i64 p4] ∧ Below w.heap.size w (World.setRow x5 gres #[.int .i64 s0.f0, .int .i64 s0.f1, .slice AK n1 cK, .slice Av2 n2 cv2, .slice Av3 n3 cv3, .int .i64 p4]) := ⟨hHeld.1.chg hc1 (by omega), below_setRow hHeld.2 (by omega) _⟩
      replace GK := GK.chg hc1 (by omega)
      replace Gv2 := Gv2.chg hc1 (by omega)
      replace Gv3 := Gv3.chg hc1 (by omega)
      clear hc1
      have Z6 : (x5).heap.size ≤ (World.setRow x5 gres #[.int .i64 s0.f0, .int .i64 s0.f1, .slice AK n1 cK, .slice Av2 n2 cv2, .slice Av3 n3 cv3, .int .i64 p4]).heap.size := by simp
      generalize World.setRow x5 gres #[.int .i64 s0.f0, .int .i64 s0.f1, .slice AK n1 cK, .slice Av2 n2 cv2, .slice Av3 n3 cv3, .int .i64 p4] = x6 at hHeld2 Gres Gb3 Gb2 GK Gv2 Gv3 Z6 ⊢
      refine hK.out _ _ hHeld2 (fun hHeld' => ?_)
      clear hHeld2
      clear hK K hHeld
      have hHeld := hHeld'
      clear hHeld'
      try simp only [Act.put, List.setIfInBounds_toArray, List.set_cons_zero, List.set_cons_succ]
      refine wpAnyH_done (by kernel_rfl) ?_ _
      go_wp2_with fail
      have k0 := Gres.at_ (j := 0) rfl
      have k1 := Gres.at_ (j := 1) rfl
      have k2 := Gres.at_ (j := 2) rfl
      have k3 := Gres.at_ (j := 3) rfl
      have k4 := Gres.at_ (j := 4) rfl
      have k5 := Gres.at_ (j := 5) rfl
      have hHB := hHeld.2
      clear hHeld
      exact bodyPost_ret (v := .agg #[.int .i64 s0.f0, .int .i64 s0.f1, .slice AK n1 cK, .slice Av2 n2 cv2, .slice Av3 n3 cv3, .int .i64 p4]) (by simp [results, Try.results102, go_sem, k0, k1, k2, k3, k4, k5]) rfl ⟨AK, Av2, Av3, cK, _, _, cv2, _, _, cv3, _, _, rfl, GK, Gv2, Gv3, Lib.hid (by unfold SepTab; omega), hHB⟩
    exact AllReadyH.nil
  exact AllReadyH.nil
end Go.Proofs.Ytoclpdbgmpdbmaa
