/- OSnapshot, what is needed of it. -/
import Derived.Test.YtkedacmpmancbaaGreatDoorVFrame
import Derived.Test.YtkedacmpmancbaaGreatDoorVRSnapshot
import Derived.StillTailTactics
namespace Go.Proofs.YtkedacmpmancbaaGreatDoor
open Go Go.ChangeShapes Go.WideShapes Go.ChangeAt Go.RowKit Go.Lib
set_option linter.unusedVariables false
set_option linter.unusedSimpArgs false
set_option maxRecDepth 100000
set_option maxHeartbeats 4000000
section
variable {H : Type} {enc : TypeId × Value → H}
theorem openl_package {W : World} {fuel : Nat} {z0 z1 z2 z3 z4 z5 z6 z7 : Value} {d : DataW H} {p : List MemPlace} (hq : DataW.trod enc Tryz.prog W 0 (fun _ => true) true fuel 27 [z0, z1, z2, z3, z4, z5, z6, z7] = some (d, p)) (hlt : ∀ x ∈ p, x.block < W.heap.size) :
    ∃ (p0 : Int) (p1 : Int) (p2 : Int) (A3 : Option Addr) (n3 c3 : Nat) (l3 : List TGrant) (A4 : Option Addr) (n4 c4 : Nat) (l4 : List TFlow) (A5 : Option Addr) (n5 c5 : Nat) (l5 : List TRule) (A6 : Option Addr) (n6 c6 : Nat) (l6 : List TOp) (p7 : Int), [z0, z1, z2, z3, z4, z5, z6, z7] = [.int .i64 p0, .int .i64 p1, .int .i64 p2, .slice A3 n3 c3, .slice A4 n4 c4, .slice A5 n5 c5, .slice A6 n6 c6, .int .i64 p7] ∧ (Lit.int .i64 p0).wf = true ∧ (Lit.int .i64 p1).wf = true ∧ (Lit.int .i64 p2).wf = true ∧ n3 ≤ maxLen ∧ Rd W 0 W.heap.size 7 A3 n3 (cGrant l3) ∧ Hid (cGrantOk l3) ∧ n4 ≤ maxLen ∧ Rd W 0 W.heap.size 3 A4 n4 (cFlow l4) ∧ Hid (cFlowOk l4) ∧ n5 ≤ maxLen ∧ Rd W 0 W.heap.size 8 A5 n5 (cRule l5) ∧ Hid (cRuleOk l5) ∧ n6 ≤ maxLen ∧ Rd W 0 W.heap.size 4 A6 n6 (cOp l6) ∧ Hid (cOpOk l6) ∧ (Lit.int .i64 p7).wf = true := by
  obtain ⟨ys, n, _, hx, hlen, hyl, hf⟩ := DataW.trod_struct Tryz.underlying27 hq
  have hx2 := congrArg Prod.snd hx
  simp only at hx2
  subst hx2
  have hyl : ys.length = 8 := hyl
  have hlt' : ∀ (i : Nat) (y : DataW H × List MemPlace), ys[i]? = some y → ∀ x ∈ y.2, x.block < W.heap.size := fun i y hy x hx => hlt x (List.mem_flatMap.2 ⟨y, List.mem_of_getElem? hy, hx⟩)
  have h0 := hf 0 _ rfl
  have h0' : DataW.trod enc Tryz.prog W 0 (fun _ => true) true n 3 [z0] = some (ys[0]'(by omega)) := by
    refine Eq.trans ?_ (h0.trans (List.getElem?_eq_getElem (by omega)))
    rfl
  obtain ⟨x0, e0, _, w0⟩ := DataW.trod_int Tryz.underlying3 h0'
  have h1 := hf 1 _ rfl
  have h1' : DataW.trod enc Tryz.prog W 0 (fun _ => true) true n 3 [z1] = some (ys[1]'(by omega)) := by
    refine Eq.trans ?_ (h1.trans (List.getElem?_eq_getElem (by omega)))
    rfl
  obtain ⟨x1, e1, _, w1⟩ := DataW.trod_int Tryz.underlying3 h1'
  have h2 := hf 2 _ rfl
  have h2' : DataW.trod enc Tryz.prog W 0 (fun _ => true) true n 3 [z2] = some (ys[2]'(by omega)) := by
    refine Eq.trans ?_ (h2.trans (List.getElem?_eq_getElem (by omega)))
    rfl
  obtain ⟨x2, e2, _, w2⟩ := DataW.trod_int Tryz.underlying3 h2'
  have h3 := hf 3 _ rfl
  have h3' : DataW.trod enc Tryz.prog W 0 (fun _ => true) true n 22 [z3] = some (ys[3]'(by omega)) := by
    refine Eq.trans ?_ (h3.trans (List.getElem?_eq_getElem (by omega)))
    rfl
  obtain ⟨A3, n3, c3, l3, e3, m3, r3, k3⟩ := rows_trod (c := TGrant.cells) (fit := TGrant.fit) (d := (ys[3]'(by omega)).1) (p := (ys[3]'(by omega)).2) Tryz.underlying22 (by kernel_rfl) TGrant.len (by decide) (fun h => read_grant h) h3' (hlt' 3 _ (List.getElem?_eq_getElem (by omega)))
  have h4 := hf 4 _ rfl
  have h4' : DataW.trod enc Tryz.prog W 0 (fun _ => true) true n 23 [z4] = some (ys[4]'(by omega)) := by
    refine Eq.trans ?_ (h4.trans (List.getElem?_eq_getElem (by omega)))
    rfl
  obtain ⟨A4, n4, c4, l4, e4, m4, r4, k4⟩ := rows_trod (c := TFlow.cells) (fit := TFlow.fit) (d := (ys[4]'(by omega)).1) (p := (ys[4]'(by omega)).2) Tryz.underlying23 (by kernel_rfl) TFlow.len (by decide) (fun h => read_flow h) h4' (hlt' 4 _ (List.getElem?_eq_getElem (by omega)))
  have h5 := hf 5 _ rfl
  have h5' : DataW.trod enc Tryz.prog W 0 (fun _ => true) true n 24 [z5] = some (ys[5]'(by omega)) := by
    refine Eq.trans ?_ (h5.trans (List.getElem?_eq_getElem (by omega)))
    rfl
  obtain ⟨A5, n5, c5, l5, e5, m5, r5, k5⟩ := rows_trod (c := TRule.cells) (fit := TRule.fit) (d := (ys[5]'(by omega)).1) (p := (ys[5]'(by omega)).2) Tryz.underlying24 (by kernel_rfl) TRule.len (by decide) (fun h => read_rule h) h5' (hlt' 5 _ (List.getElem?_eq_getElem (by omega)))
  have h6 := hf 6 _ rfl
  have h6' : DataW.trod enc Tryz.prog W 0 (fun _ => true) true n 25 [z6] = some (ys[6]'(by omega)) := by
    refine Eq.trans ?_ (h6.trans (List.getElem?_eq_getElem (by omega)))
    rfl
  obtain ⟨A6, n6, c6, l6, e6, m6, r6, k6⟩ := rows_trod (c := TOp.cells) (fit := TOp.fit) (d := (ys[6]'(by omega)).1) (p := (ys[6]'(by omega)).2) Tryz.underlying25 (by kernel_rfl) TOp.len (by decide) (fun h => read_op h) h6' (hlt' 6 _ (List.getElem?_eq_getElem (by omega)))
  have h7 := hf 7 _ rfl
  have h7' : DataW.trod enc Tryz.prog W 0 (fun _ => true) true n 3 [z7] = some (ys[7]'(by omega)) := by
    refine Eq.trans ?_ (h7.trans (List.getElem?_eq_getElem (by omega)))
    rfl
  obtain ⟨x7, e7, _, w7⟩ := DataW.trod_int Tryz.underlying3 h7'
  refine ⟨x0, x1, x2, A3, n3, c3, l3, A4, n4, c4, l4, A5, n5, c5, l5, A6, n6, c6, l6, x7, ?_, w0, w1, w2, m3, r3, k3, m4, r4, k4, m5, r5, k5, m6, r6, k6, w7⟩
  simp only [List.cons.injEq, and_true] at e0 e1 e2 e3 e4 e5 e6 e7
  simp_all

theorem open_snapshot {W : World} {base : Nat} {v : Value} {d : DataW H} {p : List MemPlace} (hv : Value.okWide Tryz.prog W .any base 41 v)
    (h : DataW.Trod enc Tryz.prog W 0 (fun _ => true) true 41 v d p) (hlt : ∀ x ∈ p, x.block < W.heap.size) :
    ∃ (p0 : Int) (p1 : Int) (p2 : Int) (A3 : Option Addr) (n3 c3 : Nat) (l3 : List TGrant) (A4 : Option Addr) (n4 c4 : Nat) (l4 : List TFlow) (A5 : Option Addr) (n5 c5 : Nat) (l5 : List TRule) (A6 : Option Addr) (n6 c6 : Nat) (l6 : List TOp) (p7 : Int) (A8 : Option Addr) (n8 c8 : Nat) (l8 : List TStored), v = .agg #[.int .i64 p0, .int .i64 p1, .int .i64 p2, .slice A3 n3 c3, .slice A4 n4 c4, .slice A5 n5 c5, .slice A6 n6 c6, .int .i64 p7, .slice A8 n8 c8] ∧ (Lit.int .i64 p0).wf = true ∧ (Lit.int .i64 p1).wf = true ∧ (Lit.int .i64 p2).wf = true ∧ n3 ≤ maxLen ∧ Rd W 0 W.heap.size 7 A3 n3 (cGrant l3) ∧ Hid (cGrantOk l3) ∧ n4 ≤ maxLen ∧ Rd W 0 W.heap.size 3 A4 n4 (cFlow l4) ∧ Hid (cFlowOk l4) ∧ n5 ≤ maxLen ∧ Rd W 0 W.heap.size 8 A5 n5 (cRule l5) ∧ Hid (cRuleOk l5) ∧ n6 ≤ maxLen ∧ Rd W 0 W.heap.size 4 A6 n6 (cOp l6) ∧ Hid (cOpOk l6) ∧ (Lit.int .i64 p7).wf = true ∧ n8 ≤ maxLen ∧ Rd W 0 W.heap.size 4 A8 n8 (cStored l8) ∧ Hid (cStoredOk l8) := by
  obtain ⟨cs, rfl, hsz⟩ := okWide_struct Tryz.underlying41 hv
  obtain ⟨fuel, hq⟩ := h
  obtain ⟨ys, n, _, hx, hlen, hyl, hf⟩ := DataW.trod_struct Tryz.underlying41 hq
  have hx2 := congrArg Prod.snd hx
  simp only at hx2
  subst hx2
  have hlen : cs.size = 9 := hsz.trans (by kernel_rfl)
  have hyl : ys.length = 2 := hyl
  have hlt' : ∀ (i : Nat) (y : DataW H × List MemPlace), ys[i]? = some y → ∀ x ∈ y.2, x.block < W.heap.size := fun i y hy x hx => hlt x (List.mem_flatMap.2 ⟨y, List.mem_of_getElem? hy, hx⟩)
  obtain ⟨cl⟩ := cs
  match cl, hlen with
  | [z0, z1, z2, z3, z4, z5, z6, z7, z8], _ =>
    have h0 := hf 0 _ rfl
    have h0' : DataW.trod enc Tryz.prog W 0 (fun _ => true) true n 27 [z0, z1, z2, z3, z4, z5, z6, z7] = some ((ys[0]'(by omega)).1, (ys[0]'(by omega)).2) := by
      refine Eq.trans ?_ (h0.trans (List.getElem?_eq_getElem (by omega)))
      rfl
    obtain ⟨p0, p1, p2, A3, n3, c3, l3, A4, n4, c4, l4, A5, n5, c5, l5, A6, n6, c6, l6, p7, e0, hrest⟩ := openl_package h0' (hlt' 0 _ (List.getElem?_eq_getElem (by omega)))
    have h1 := hf 1 _ rfl
    have h1' : DataW.trod enc Tryz.prog W 0 (fun _ => true) true n 39 [z8] = some (ys[1]'(by omega)) := by
      refine Eq.trans ?_ (h1.trans (List.getElem?_eq_getElem (by omega)))
      rfl
    obtain ⟨A8, n8, c8, l8, e8, m8, r8, k8⟩ := rows_trod (c := TStored.cells) (fit := TStored.fit) (d := (ys[1]'(by omega)).1) (p := (ys[1]'(by omega)).2) Tryz.underlying39 (by kernel_rfl) TStored.len (by decide) (fun h => read_stored h) h1' (hlt' 1 _ (List.getElem?_eq_getElem (by omega)))
    refine ⟨p0, p1, p2, A3, n3, c3, l3, A4, n4, c4, l4, A5, n5, c5, l5, A6, n6, c6, l6, p7, A8, n8, c8, l8, ?_, ?_⟩
    · simp only [List.cons.injEq, and_true] at e0 e8
      obtain ⟨rfl, rfl, rfl, rfl, rfl, rfl, rfl, rfl⟩ := e0
      subst e8
      rfl
    · obtain ⟨q0, q1, q2, q3, q4, q5, q6, q7, q8, q9, q10, q11, q12, q13, q14, q15⟩ := hrest
      exact ⟨q0, q1, q2, q3, q4, q5, q6, q7, q8, q9, q10, q11, q12, q13, q14, q15, m8, r8, k8⟩
end
theorem to_snapshot (p0 p1 p2 : Int) (l3 : List TGrant) (A3 : Option Addr) (n3 c3 lo3 hi3 : Nat) (l4 : List TFlow) (A4 : Option Addr) (n4 c4 lo4 hi4 : Nat) (l5 : List TRule) (A5 : Option Addr) (n5 c5 lo5 hi5 : Nat) (l6 : List TOp) (A6 : Option Addr) (n6 c6 lo6 hi6 : Nat) (p7 : Int) (l8 : List TStored) (A8 : Option Addr) (n8 c8 lo8 hi8 : Nat) (w : World) (hn3 : n3 ≤ 17179869184) (r3 : Rd w lo3 hi3 7 A3 n3 (cGrant l3)) (hn4 : n4 ≤ 17179869184) (r4 : Rd w lo4 hi4 3 A4 n4 (cFlow l4)) (hn5 : n5 ≤ 17179869184) (r5 : Rd w lo5 hi5 8 A5 n5 (cRule l5)) (hn6 : n6 ≤ 17179869184) (r6 : Rd w lo6 hi6 4 A6 n6 (cOp l6)) (hn8 : n8 ≤ 17179869184) (r8 : Rd w lo8 hi8 4 A8 n8 (cStored l8)) :
    Calls Tryz.prog 14 #[.agg #[.int .i64 p0, .int .i64 p1, .int .i64 p2, .slice A3 n3 c3, .slice A4 n4 c4, .slice A5 n5 c5, .slice A6 n6 c6, .int .i64 p7, .slice A8 n8 c8]] w (MakesSnapshot p0 p1 p2 n3 l3 n4 l4 n5 l5 n6 l6 p7 n8 l8 w) := by
  have R3 := Lib.hid r3
  have R4 := Lib.hid r4
  have R5 := Lib.hid r5
  have R6 := Lib.hid r6
  have R8 := Lib.hid r8
  clear r3 r4 r5 r6 r8
  have HB := Lib.hid (Below.refl w.heap.size w)
  go_enter Tryz.func14, Tryz.ntmps14
  go_wp2_with fail
  refine Calls.mono (to_package p0 p1 p2 l3 A3 n3 c3 lo3 hi3 l4 A4 n4 c4 lo4 hi4 l5 A5 n5 c5 lo5 hi5 l6 A6 n6 c6 lo6 hi6 p7 _ hn3 (R3.out.new aU2) hn4 (R4.out.new aU2) hn5 (R5.out.new aU2) hn6 (R6.out.new aU2)) ?_
  rintro e w1 ⟨B3, B4, B5, B6, d3, g3, i3, d4, g4, i4, d5, g5, i5, d6, g6, i6, rfl, F3, F4, F5, F6, MS, hb⟩
  replace MS : Hid (SepPackage (w.heap.size + 3) w1.heap.size g3 i3 g4 i4 g5 i5 g6 i6) := Lib.hid (by have h := MS.out; unfold SepPackage at h ⊢; simp at h; omega)
  have MB := Lib.hid (SepPackage_bd MS.out)
  replace F3 := Lib.hid F3
  replace F4 := Lib.hid F4
  replace F5 := Lib.hid F5
  replace F6 := Lib.hid F6
  obtain ⟨hc1, hf1⟩ := bcell hb
  have hs1 := hb.size
  (try simp at hs1)
  replace HB := Lib.hid (show Below w.heap.size w w1 from Below.trans aU2 (hb.mono (by first | omega | (simp; done) | (simp <;> omega))))
  have z1_0 : w.heap.size < w1.heap.size := by omega
  have z1_1 : w.heap.size + 1 < w1.heap.size := by omega
  have z1_2 : w.heap.size + 1 + 1 < w1.heap.size := by omega
  clear hb
  go_wp2_with fail
  refine Calls.mono (to_stored l8 A8 n8 c8 lo8 hi8 _ (by omega) (R8.out.new aU2)) ?_
  rintro e w2 ⟨B8, d8, rfl, F8, hb⟩
  replace F3 := Lib.hid (show Fr w2 g3 i3 106 7 B3 n3 d3 (cGrant l3) from Fr.new (by repeat (first | with_reducible exact F3.out | (with_reducible refine Fr.put ?_ (by have h := MB.out; first | omega | (simp; done) | (simp <;> omega)) _) | (with_reducible refine Fr.alloc ?_ _))) hb)
  replace F4 := Lib.hid (show Fr w2 g4 i4 109 3 B4 n4 d4 (cFlow l4) from Fr.new (by repeat (first | with_reducible exact F4.out | (with_reducible refine Fr.put ?_ (by have h := MB.out; first | omega | (simp; done) | (simp <;> omega)) _) | (with_reducible refine Fr.alloc ?_ _))) hb)
  replace F5 := Lib.hid (show Fr w2 g5 i5 113 8 B5 n5 d5 (cRule l5) from Fr.new (by repeat (first | with_reducible exact F5.out | (with_reducible refine Fr.put ?_ (by have h := MB.out; first | omega | (simp; done) | (simp <;> omega)) _) | (with_reducible refine Fr.alloc ?_ _))) hb)
  replace F6 := Lib.hid (show Fr w2 g6 i6 130 4 B6 n6 d6 (cOp l6) from Fr.new (by repeat (first | with_reducible exact F6.out | (with_reducible refine Fr.put ?_ (by have h := MB.out; first | omega | (simp; done) | (simp <;> omega)) _) | (with_reducible refine Fr.alloc ?_ _))) hb)
  obtain ⟨hc2, hf2⟩ := bcell hb
  have hs2 := hb.size
  (try simp at hs2)
  replace HB := Lib.hid (show Below w.heap.size w w2 from Below.trans aU2 (hb.mono (by first | omega | (simp; done) | (simp <;> omega))))
  have z2_0 : w.heap.size < w2.heap.size := by omega
  have z2_1 : w.heap.size + 1 < w2.heap.size := by omega
  have z2_2 : w.heap.size + 1 + 1 < w2.heap.size := by omega
  clear hb
  replace F8 := Lib.hid (F8.mono (lo' := w1.heap.size) (by simp) (Nat.le_refl _))
  go_wp2_with fail
  exact bodyPost_ret (v := .agg #[.int .i64 p0, .int .i64 p1, .int .i64 p2, .slice B3 n3 d3, .slice B4 n4 d4, .slice B5 n5 d5, .slice B6 n6 d6, .int .i64 p7, .slice B8 n8 d8]) (by simp [results, Tryz.results14, go_sem, hc2, z2_0, z2_1, z2_2, hc1, z1_0, z1_1, z1_2]) rfl
    ⟨B3, B4, B5, B6, B8, d3, g3, i3, d4, g4, i4, d5, g5, i5, d6, g6, i6, d8, w1.heap.size, w2.heap.size, rfl, (by repeat (first | with_reducible exact F3.out | (with_reducible refine Fr.put ?_ (by have h := MB.out; first | omega | (simp; done) | (simp <;> omega)) _) | (with_reducible refine Fr.alloc ?_ _))), (by repeat (first | with_reducible exact F4.out | (with_reducible refine Fr.put ?_ (by have h := MB.out; first | omega | (simp; done) | (simp <;> omega)) _) | (with_reducible refine Fr.alloc ?_ _))), (by repeat (first | with_reducible exact F5.out | (with_reducible refine Fr.put ?_ (by have h := MB.out; first | omega | (simp; done) | (simp <;> omega)) _) | (with_reducible refine Fr.alloc ?_ _))), (by repeat (first | with_reducible exact F6.out | (with_reducible refine Fr.put ?_ (by have h := MB.out; first | omega | (simp; done) | (simp <;> omega)) _) | (with_reducible refine Fr.alloc ?_ _))), (by repeat (first | with_reducible exact F8.out | (with_reducible refine Fr.put ?_ (by have h := MB.out; first | omega | (simp; done) | (simp <;> omega)) _) | (with_reducible refine Fr.alloc ?_ _))),
      Lib.hid ⟨w.heap.size + 3, w1.heap.size, by omega, by omega, by simp; omega, MS.out, by omega, by omega, by simp, .inl (Nat.le_refl _)⟩, aU2⟩
theorem sz_snapshot (p0 p1 p2 : Int) (A3 : Option Addr) (n3 c3 : Nat) (A4 : Option Addr) (n4 c4 : Nat) (A5 : Option Addr) (n5 c5 : Nat) (A6 : Option Addr) (n6 c6 : Nat) (p7 : Int) (A8 : Option Addr) (n8 c8 : Nat) (left : Int) (w : World) (hm3 : n3 ≤ 9223372036854775807) (hm4 : n4 ≤ 9223372036854775807) (hm5 : n5 ≤ 9223372036854775807) (hm6 : n6 ≤ 9223372036854775807) (hm8 : n8 ≤ 9223372036854775807) (h : (n3 : Int) + (n4 : Int) + (n5 : Int) + (n6 : Int) + (n8 : Int) ≤ left) (hl : left ≤ 1048576) :
    Calls Tryz.prog 12 #[.agg #[.int .i64 p0, .int .i64 p1, .int .i64 p2, .slice A3 n3 c3, .slice A4 n4 c4, .slice A5 n5 c5, .slice A6 n6 c6, .int .i64 p7, .slice A8 n8 c8], .int .i64 left] w (Says (.int .i64 (left - (n3 : Int) - (n4 : Int) - (n5 : Int) - (n6 : Int) - (n8 : Int))) w) := by
  have HB := Lib.hid (Below.refl w.heap.size w)
  have g0 : decide (left - (n3 : Int) - (n4 : Int) - (n5 : Int) - (n6 : Int) < 0) = false := by simp; omega
  have g1 : decide (left - (n3 : Int) - (n4 : Int) - (n5 : Int) - (n6 : Int) - (n8 : Int) < 0) = false := by simp; omega
  go_enter Tryz.func12, Tryz.ntmps12
  go_wp2_with fail
  refine Calls.mono (sz_package p0 p1 p2 A3 n3 c3 A4 n4 c4 A5 n5 c5 A6 n6 c6 p7 left _ hm3 hm4 hm5 hm6 (by omega) (by omega)) ?_
  rintro e w1 ⟨rfl, hb⟩
  obtain ⟨hc1, hf1⟩ := bcell hb
  have hs1 := hb.size
  (try simp at hs1)
  replace HB := Lib.hid (show Below w.heap.size w w1 from Below.trans aU2 (hb.mono (by first | omega | (simp; done) | (simp <;> omega))))
  have z1_0 : w.heap.size < w1.heap.size := by omega
  clear hb
  go_wp2_with fail
  refine Calls.mono (sz_stored A8 n8 c8 (left - (n3 : Int) - (n4 : Int) - (n5 : Int) - (n6 : Int)) _ hm8 (by omega) (by omega)) ?_
  rintro e w2 hq
  obtain ⟨rfl, hb⟩ := hq.says
  obtain ⟨hc2, hf2⟩ := bcell hb
  have hs2 := hb.size
  (try simp at hs2)
  replace HB := Lib.hid (show Below w.heap.size w w2 from Below.trans aU2 (hb.mono (by first | omega | (simp; done) | (simp <;> omega))))
  have z2_0 : w.heap.size < w2.heap.size := by omega
  clear hb
  go_wp2_with fail
  go_ret
  exact ⟨rfl, aU2⟩
theorem szno_snapshot (p0 p1 p2 : Int) (A3 : Option Addr) (n3 c3 : Nat) (A4 : Option Addr) (n4 c4 : Nat) (A5 : Option Addr) (n5 c5 : Nat) (A6 : Option Addr) (n6 c6 : Nat) (p7 : Int) (A8 : Option Addr) (n8 c8 : Nat) (left : Int) (w : World) (hm3 : n3 ≤ 9223372036854775807) (hm4 : n4 ≤ 9223372036854775807) (hm5 : n5 ≤ 9223372036854775807) (hm6 : n6 ≤ 9223372036854775807) (hm8 : n8 ≤ 9223372036854775807) (h : ¬ (n3 : Int) + (n4 : Int) + (n5 : Int) + (n6 : Int) + (n8 : Int) ≤ left) (hl : left ≤ 1048576) (hl0 : 0 ≤ left) :
    Calls Tryz.prog 12 #[.agg #[.int .i64 p0, .int .i64 p1, .int .i64 p2, .slice A3 n3 c3, .slice A4 n4 c4, .slice A5 n5 c5, .slice A6 n6 c6, .int .i64 p7, .slice A8 n8 c8], .int .i64 left] w (Says (.int .i64 (-1)) w) := by
  have HB := Lib.hid (Below.refl w.heap.size w)
  by_cases u0 : (n3 : Int) + (n4 : Int) + (n5 : Int) + (n6 : Int) ≤ left
  · skip
    have g0 : decide (left - (n3 : Int) - (n4 : Int) - (n5 : Int) - (n6 : Int) < 0) = false := by simp; omega
    go_enter Tryz.func12, Tryz.ntmps12
    go_wp2_with fail
    refine Calls.mono (sz_package p0 p1 p2 A3 n3 c3 A4 n4 c4 A5 n5 c5 A6 n6 c6 p7 left _ hm3 hm4 hm5 hm6 (by omega) (by omega)) ?_
    rintro e w1 ⟨rfl, hb⟩
    obtain ⟨hc1, hf1⟩ := bcell hb
    have hs1 := hb.size
    (try simp at hs1)
    replace HB := Lib.hid (show Below w.heap.size w w1 from Below.trans aU2 (hb.mono (by first | omega | (simp; done) | (simp <;> omega))))
    have z1_0 : w.heap.size < w1.heap.size := by omega
    clear hb
    go_wp2_with fail
    refine Calls.mono (szno_stored A8 n8 c8 (left - (n3 : Int) - (n4 : Int) - (n5 : Int) - (n6 : Int)) _ hm8 (by omega) (by omega) (by omega)) ?_
    rintro e w2 hq
    obtain ⟨rfl, hb⟩ := hq.says
    obtain ⟨hc2, hf2⟩ := bcell hb
    have hs2 := hb.size
    (try simp at hs2)
    replace HB := Lib.hid (show Below w.heap.size w w2 from Below.trans aU2 (hb.mono (by first | omega | (simp; done) | (simp <;> omega))))
    have z2_0 : w.heap.size < w2.heap.size := by omega
    clear hb
    go_wp2_with fail
    go_ret
    exact ⟨rfl, aU2⟩
  · skip
    go_enter Tryz.func12, Tryz.ntmps12
    go_wp2_with fail
    refine Calls.mono (szno_package p0 p1 p2 A3 n3 c3 A4 n4 c4 A5 n5 c5 A6 n6 c6 p7 left _ hm3 hm4 hm5 hm6 (by omega) (by omega) (by omega)) ?_
    rintro e w1 ⟨rfl, hb⟩
    obtain ⟨hc1, hf1⟩ := bcell hb
    have hs1 := hb.size
    (try simp at hs1)
    replace HB := Lib.hid (show Below w.heap.size w w1 from Below.trans aU2 (hb.mono (by first | omega | (simp; done) | (simp <;> omega))))
    have z1_0 : w.heap.size < w1.heap.size := by omega
    clear hb
    go_wp2_with fail
    go_ret
    exact ⟨rfl, aU2⟩
end Go.Proofs.YtkedacmpmancbaaGreatDoor
