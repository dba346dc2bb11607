/- RPackage, what is needed of it. -/
import Derived.Test.YtkedacmpmancbaaGreatDoorVFrame
import Derived.Test.YtkedacmpmancbaaGreatDoorVRich
import Derived.Test.YtkedacmpmancbaaGreatDoorVTFlow
import Derived.Test.YtkedacmpmancbaaGreatDoorVTGrant
import Derived.Test.YtkedacmpmancbaaGreatDoorVTOp
import Derived.Test.YtkedacmpmancbaaGreatDoorVTRule
import Derived.StillTailTactics
import Derived.Deep.RegionHeld3
import Derived.Deep.DeepCutAuto
namespace Go.Proofs.YtkedacmpmancbaaGreatDoor
open Go Go.ChangeShapes Go.WideShapes Go.ChangeAt Go.RowKit Go.Lib
set_option linter.unusedVariables false
set_option linter.unusedSimpArgs false
set_option maxRecDepth 100000
set_option maxHeartbeats 4000000

/-- Where the slices lie: each in blocks of its own, all from lo on and below hi. -/
def SepPackage (lo hi lo3 hi3 lo4 hi4 lo5 hi5 lo6 hi6 : Nat) : Prop := lo ≤ lo3 ∧ lo3 ≤ hi3 ∧ hi3 ≤ hi ∧ lo ≤ lo4 ∧ lo4 ≤ hi4 ∧ hi4 ≤ hi ∧ lo ≤ lo5 ∧ lo5 ≤ hi5 ∧ hi5 ≤ hi ∧ lo ≤ lo6 ∧ lo6 ≤ hi6 ∧ hi6 ≤ hi ∧ (hi3 ≤ lo4 ∨ hi4 ≤ lo3) ∧ (hi3 ≤ lo5 ∨ hi5 ≤ lo3) ∧ (hi3 ≤ lo6 ∨ hi6 ≤ lo3) ∧ (hi4 ≤ lo5 ∨ hi5 ≤ lo4) ∧ (hi4 ≤ lo6 ∨ hi6 ≤ lo4) ∧ (hi5 ≤ lo6 ∨ hi6 ≤ lo5)
theorem SepPackage_bd {lo hi lo3 hi3 lo4 hi4 lo5 hi5 lo6 hi6 : Nat} (h : SepPackage lo hi lo3 hi3 lo4 hi4 lo5 hi5 lo6 hi6) : lo ≤ lo3 ∧ lo3 ≤ hi3 ∧ hi3 ≤ hi ∧ lo ≤ lo4 ∧ lo4 ≤ hi4 ∧ hi4 ≤ hi ∧ lo ≤ lo5 ∧ lo5 ≤ hi5 ∧ hi5 ≤ hi ∧ lo ≤ lo6 ∧ lo6 ≤ hi6 ∧ hi6 ≤ hi := by unfold SepPackage at h; omega
/-- A call that answers a new Package of these parts and leaves what was there. -/
def MakesPackage (p0 : Int) (p1 : Int) (p2 : Int) (n3 : Nat) (l3 : List TGrant) (n4 : Nat) (l4 : List TFlow) (n5 : Nat) (l5 : List TRule) (n6 : Nat) (l6 : List TOp) (p7 : Int) (w : World) (e : Ending) (w' : World) : Prop :=
 ∃ (A3 A4 A5 A6 : Option Addr) (c3 lo3 hi3 c4 lo4 hi4 c5 lo5 hi5 c6 lo6 hi6 : Nat), e = .returned (.agg #[.int .i64 p0, .int .i64 p1, .int .i64 p2, .slice A3 n3 c3, .slice A4 n4 c4, .slice A5 n5 c5, .slice A6 n6 c6, .int .i64 p7]) ∧ Fr w' lo3 hi3 106 7 A3 n3 c3 (cGrant l3) ∧ Fr w' lo4 hi4 109 3 A4 n4 c4 (cFlow l4) ∧ Fr w' lo5 hi5 113 8 A5 n5 c5 (cRule l5) ∧ Fr w' lo6 hi6 130 4 A6 n6 c6 (cOp l6) ∧ Hid (SepPackage w.heap.size w'.heap.size lo3 hi3 lo4 hi4 lo5 hi5 lo6 hi6) ∧ Below w.heap.size w w'
section
variable {H : Type} {enc : TypeId × Value → H}
theorem open_package {W : World} {base : Nat} {v : Value} {d : DataW H} {p : List MemPlace} (hv : Value.okWide Tryz.prog W .any base 27 v)
  (h : DataW.Trod enc Tryz.prog W 0 (fun _ => true) true 27 v d p) (hlt : ∀ x ∈ p, x.block < W.heap.size) :
  ∃ (p0 : Int) (p1 : Int) (p2 : Int) (A3 : Option Addr) (n3 c3 : Nat) (l3 : List TGrant) (A4 : Option Addr) (n4 c4 : Nat) (l4 : List TFlow) (A5 : Option Addr) (n5 c5 : Nat) (l5 : List TRule) (A6 : Option Addr) (n6 c6 : Nat) (l6 : List TOp) (p7 : Int), v = .agg #[.int .i64 p0, .int .i64 p1, .int .i64 p2, .slice A3 n3 c3, .slice A4 n4 c4, .slice A5 n5 c5, .slice A6 n6 c6, .int .i64 p7] ∧ (Lit.int .i64 p0).wf = true ∧ (Lit.int .i64 p1).wf = true ∧ (Lit.int .i64 p2).wf = true ∧ n3 ≤ maxLen ∧ Rd W 0 W.heap.size 7 A3 n3 (cGrant l3) ∧ Hid (cGrantOk l3) ∧ n4 ≤ maxLen ∧ Rd W 0 W.heap.size 3 A4 n4 (cFlow l4) ∧ Hid (cFlowOk l4) ∧ n5 ≤ maxLen ∧ Rd W 0 W.heap.size 8 A5 n5 (cRule l5) ∧ Hid (cRuleOk l5) ∧ n6 ≤ maxLen ∧ Rd W 0 W.heap.size 4 A6 n6 (cOp l6) ∧ Hid (cOpOk l6) ∧ (Lit.int .i64 p7).wf = true := by
 obtain ⟨cs, rfl, hsz⟩ := okWide_struct Tryz.underlying27 hv
 obtain ⟨fuel, hq⟩ := h
 obtain ⟨ys, n, _, hx, hlen, hyl, hf⟩ := DataW.trod_struct Tryz.underlying27 hq
 have hx2 := congrArg Prod.snd hx
 simp only at hx2
 subst hx2
 have hlen : cs.size = 8 := hsz.trans (by kernel_rfl)
 have hyl : ys.length = 8 := hyl
 have hlt' : ∀ (i : Nat) (y : DataW H × List MemPlace), ys[i]? = some y → ∀ x ∈ y.2, x.block < W.heap.size := fun i y hy x hx => hlt x (List.mem_flatMap.2 ⟨y, List.mem_of_getElem? hy, hx⟩)
 obtain ⟨cl⟩ := cs
 match cl, hlen with
 | [z0, z1, z2, z3, z4, z5, z6, z7], _ =>
  have h0 := hf 0 _ rfl
  have h0' : DataW.trod enc Tryz.prog W 0 (fun _ => true) true n 3 [z0] = some (ys[0]'(by omega)) := by
   refine Eq.trans ?_ (h0.trans (List.getElem?_eq_getElem (by omega)))
   rfl
  obtain ⟨x0, e0, _, w0⟩ := DataW.trod_int Tryz.underlying3 h0'
  have h1 := hf 1 _ rfl
  have h1' : DataW.trod enc Tryz.prog W 0 (fun _ => true) true n 3 [z1] = some (ys[1]'(by omega)) := by
   refine Eq.trans ?_ (h1.trans (List.getElem?_eq_getElem (by omega)))
   rfl
  obtain ⟨x1, e1, _, w1⟩ := DataW.trod_int Tryz.underlying3 h1'
  have h2 := hf 2 _ rfl
  have h2' : DataW.trod enc Tryz.prog W 0 (fun _ => true) true n 3 [z2] = some (ys[2]'(by omega)) := by
   refine Eq.trans ?_ (h2.trans (List.getElem?_eq_getElem (by omega)))
   rfl
  obtain ⟨x2, e2, _, w2⟩ := DataW.trod_int Tryz.underlying3 h2'
  have h3 := hf 3 _ rfl
  have h3' : DataW.trod enc Tryz.prog W 0 (fun _ => true) true n 22 [z3] = some (ys[3]'(by omega)) := by
   refine Eq.trans ?_ (h3.trans (List.getElem?_eq_getElem (by omega)))
   rfl
  obtain ⟨A3, n3, c3, l3, e3, m3, r3, k3⟩ := rows_trod (c := TGrant.cells) (fit := TGrant.fit) (d := (ys[3]'(by omega)).1) (p := (ys[3]'(by omega)).2) Tryz.underlying22 (by kernel_rfl) TGrant.len (by decide) (fun h => read_grant h) h3' (hlt' 3 _ (List.getElem?_eq_getElem (by omega)))
  have h4 := hf 4 _ rfl
  have h4' : DataW.trod enc Tryz.prog W 0 (fun _ => true) true n 23 [z4] = some (ys[4]'(by omega)) := by
   refine Eq.trans ?_ (h4.trans (List.getElem?_eq_getElem (by omega)))
   rfl
  obtain ⟨A4, n4, c4, l4, e4, m4, r4, k4⟩ := rows_trod (c := TFlow.cells) (fit := TFlow.fit) (d := (ys[4]'(by omega)).1) (p := (ys[4]'(by omega)).2) Tryz.underlying23 (by kernel_rfl) TFlow.len (by decide) (fun h => read_flow h) h4' (hlt' 4 _ (List.getElem?_eq_getElem (by omega)))
  have h5 := hf 5 _ rfl
  have h5' : DataW.trod enc Tryz.prog W 0 (fun _ => true) true n 24 [z5] = some (ys[5]'(by omega)) := by
   refine Eq.trans ?_ (h5.trans (List.getElem?_eq_getElem (by omega)))
   rfl
  obtain ⟨A5, n5, c5, l5, e5, m5, r5, k5⟩ := rows_trod (c := TRule.cells) (fit := TRule.fit) (d := (ys[5]'(by omega)).1) (p := (ys[5]'(by omega)).2) Tryz.underlying24 (by kernel_rfl) TRule.len (by decide) (fun h => read_rule h) h5' (hlt' 5 _ (List.getElem?_eq_getElem (by omega)))
  have h6 := hf 6 _ rfl
  have h6' : DataW.trod enc Tryz.prog W 0 (fun _ => true) true n 25 [z6] = some (ys[6]'(by omega)) := by
   refine Eq.trans ?_ (h6.trans (List.getElem?_eq_getElem (by omega)))
   rfl
  obtain ⟨A6, n6, c6, l6, e6, m6, r6, k6⟩ := rows_trod (c := TOp.cells) (fit := TOp.fit) (d := (ys[6]'(by omega)).1) (p := (ys[6]'(by omega)).2) Tryz.underlying25 (by kernel_rfl) TOp.len (by decide) (fun h => read_op h) h6' (hlt' 6 _ (List.getElem?_eq_getElem (by omega)))
  have h7 := hf 7 _ rfl
  have h7' : DataW.trod enc Tryz.prog W 0 (fun _ => true) true n 3 [z7] = some (ys[7]'(by omega)) := by
   refine Eq.trans ?_ (h7.trans (List.getElem?_eq_getElem (by omega)))
   rfl
  obtain ⟨x7, e7, _, w7⟩ := DataW.trod_int Tryz.underlying3 h7'
  refine ⟨x0, x1, x2, A3, n3, c3, l3, A4, n4, c4, l4, A5, n5, c5, l5, A6, n6, c6, l6, x7, ?_, w0, w1, w2, m3, r3, k3, m4, r4, k4, m5, r5, k5, m6, r6, k6, w7⟩
  simp only [List.cons.injEq, and_true] at e0 e1 e2 e3 e4 e5 e6 e7
  simp_all
end
theorem to_package (p0 : Int) (p1 : Int) (p2 : Int) (l3 : List TGrant) (A3 : Option Addr) (n3 c3 lo3 hi3 : Nat) (l4 : List TFlow) (A4 : Option Addr) (n4 c4 lo4 hi4 : Nat) (l5 : List TRule) (A5 : Option Addr) (n5 c5 lo5 hi5 : Nat) (l6 : List TOp) (A6 : Option Addr) (n6 c6 lo6 hi6 : Nat) (p7 : Int) (w : World) (hn3 : n3 ≤ 17179869184) (r3 : Rd w lo3 hi3 7 A3 n3 (cGrant l3)) (hn4 : n4 ≤ 17179869184) (r4 : Rd w lo4 hi4 3 A4 n4 (cFlow l4)) (hn5 : n5 ≤ 17179869184) (r5 : Rd w lo5 hi5 8 A5 n5 (cRule l5)) (hn6 : n6 ≤ 17179869184) (r6 : Rd w lo6 hi6 4 A6 n6 (cOp l6)) :
  Calls Tryz.prog 9 #[.agg #[.int .i64 p0, .int .i64 p1, .int .i64 p2, .slice A3 n3 c3, .slice A4 n4 c4, .slice A5 n5 c5, .slice A6 n6 c6, .int .i64 p7]] w (MakesPackage p0 p1 p2 n3 l3 n4 l4 n5 l5 n6 l6 p7 w) := by
 have R3 := Lib.hid r3
 have R4 := Lib.hid r4
 have R5 := Lib.hid r5
 have R6 := Lib.hid r6
 clear r3 r4 r5 r6
 have HB := Lib.hid (Below.refl w.heap.size w)
 go_enter Tryz.func9, Tryz.ntmps9
 go_wp2_with fail
 refine Calls.mono (to_grant l3 A3 n3 c3 lo3 hi3 _ (by omega) (R3.out.new aU1)) ?_
 rintro e w1 ⟨B3, d3, rfl, F3, hb⟩
 obtain ⟨hc1, hf1⟩ := bcell hb
 have hs1 := hb.size
 (try simp at hs1)
 replace HB := Lib.hid (show Below w.heap.size w w1 from Below.trans aU1 (hb.mono aW))
 have z1_0 : w.heap.size < w1.heap.size := by omega
 have z1_1 : w.heap.size + 1 < w1.heap.size := by omega
 have z1_2 : w.heap.size + 1 + 1 < w1.heap.size := by omega
 clear hb
 replace F3 := Lib.hid (F3.mono (lo' := w.heap.size + 3) (by simp) (Nat.le_refl _))
 go_wp2_with fail
 refine Calls.mono (to_flow l4 A4 n4 c4 lo4 hi4 _ (by omega) (R4.out.new aU1)) ?_
 rintro e w2 ⟨B4, d4, rfl, F4, hb⟩
 replace F3 := Lib.hid (show Fr w2 (w.heap.size + 3) (w1.heap.size) 106 7 B3 n3 d3 (cGrant l3) from Fr.new aU5 hb)
 obtain ⟨hc2, hf2⟩ := bcell hb
 have hs2 := hb.size
 (try simp at hs2)
 replace HB := Lib.hid (show Below w.heap.size w w2 from Below.trans aU1 (hb.mono aW))
 have z2_0 : w.heap.size < w2.heap.size := by omega
 have z2_1 : w.heap.size + 1 < w2.heap.size := by omega
 have z2_2 : w.heap.size + 1 + 1 < w2.heap.size := by omega
 clear hb
 replace F4 := Lib.hid (F4.mono (lo' := w1.heap.size) (by simp) (Nat.le_refl _))
 go_wp2_with fail
 refine Calls.mono (to_rule l5 A5 n5 c5 lo5 hi5 _ (by omega) (R5.out.new aU1)) ?_
 rintro e w3 ⟨B5, d5, rfl, F5, hb⟩
 replace F3 := Lib.hid (show Fr w3 (w.heap.size + 3) (w1.heap.size) 106 7 B3 n3 d3 (cGrant l3) from Fr.new aU5 hb)
 replace F4 := Lib.hid (show Fr w3 (w1.heap.size) (w2.heap.size) 109 3 B4 n4 d4 (cFlow l4) from Fr.new aU7 hb)
 obtain ⟨hc3, hf3⟩ := bcell hb
 have hs3 := hb.size
 (try simp at hs3)
 replace HB := Lib.hid (show Below w.heap.size w w3 from Below.trans aU1 (hb.mono aW))
 have z3_0 : w.heap.size < w3.heap.size := by omega
 have z3_1 : w.heap.size + 1 < w3.heap.size := by omega
 have z3_2 : w.heap.size + 1 + 1 < w3.heap.size := by omega
 clear hb
 replace F5 := Lib.hid (F5.mono (lo' := w2.heap.size) (by simp) (Nat.le_refl _))
 go_wp2_with fail
 refine Calls.mono (to_op l6 A6 n6 c6 lo6 hi6 _ (by omega) (R6.out.new aU1)) ?_
 rintro e w4 ⟨B6, d6, rfl, F6, hb⟩
 replace F3 := Lib.hid (show Fr w4 (w.heap.size + 3) (w1.heap.size) 106 7 B3 n3 d3 (cGrant l3) from Fr.new aU5 hb)
 replace F4 := Lib.hid (show Fr w4 (w1.heap.size) (w2.heap.size) 109 3 B4 n4 d4 (cFlow l4) from Fr.new aU7 hb)
 replace F5 := Lib.hid (show Fr w4 (w2.heap.size) (w3.heap.size) 113 8 B5 n5 d5 (cRule l5) from Fr.new aU12 hb)
 obtain ⟨hc4, hf4⟩ := bcell hb
 have hs4 := hb.size
 (try simp at hs4)
 replace HB := Lib.hid (show Below w.heap.size w w4 from Below.trans aU1 (hb.mono aW))
 have z4_0 : w.heap.size < w4.heap.size := by omega
 have z4_1 : w.heap.size + 1 < w4.heap.size := by omega
 have z4_2 : w.heap.size + 1 + 1 < w4.heap.size := by omega
 clear hb
 replace F6 := Lib.hid (F6.mono (lo' := w3.heap.size) (by simp) (Nat.le_refl _))
 go_wp2_with fail
 exact bodyPost_ret (v := .agg #[.int .i64 p0, .int .i64 p1, .int .i64 p2, .slice B3 n3 d3, .slice B4 n4 d4, .slice B5 n5 d5, .slice B6 n6 d6, .int .i64 p7]) (by simp [results, Tryz.results9, go_sem, hc1, z1_0, z1_1, z1_2, hc2, z2_0, z2_1, z2_2, hc3, z3_0, z3_1, z3_2, hc4, z4_0, z4_1, z4_2]) rfl
  ⟨B3, B4, B5, B6, d3, w.heap.size + 3, w1.heap.size, d4, w1.heap.size, w2.heap.size, d5, w2.heap.size, w3.heap.size, d6, w3.heap.size, w4.heap.size, rfl, aU5, aU7, aU12, aU14,
   Lib.hid (by unfold SepPackage; simp; omega), aU1⟩

theorem sz_package (p0 : Int) (p1 : Int) (p2 : Int) (A3 : Option Addr) (n3 c3 : Nat) (A4 : Option Addr) (n4 c4 : Nat) (A5 : Option Addr) (n5 c5 : Nat) (A6 : Option Addr) (n6 c6 : Nat) (p7 : Int) (left : Int) (w : World) (hm3 : n3 ≤ 9223372036854775807) (hm4 : n4 ≤ 9223372036854775807) (hm5 : n5 ≤ 9223372036854775807) (hm6 : n6 ≤ 9223372036854775807) (h : (n3 : Int) + (n4 : Int) + (n5 : Int) + (n6 : Int) ≤ left) (hl : left ≤ 1048576) :
  Calls Tryz.prog 7 #[.agg #[.int .i64 p0, .int .i64 p1, .int .i64 p2, .slice A3 n3 c3, .slice A4 n4 c4, .slice A5 n5 c5, .slice A6 n6 c6, .int .i64 p7], .int .i64 left] w (Says (.int .i64 (left - (n3 : Int) - (n4 : Int) - (n5 : Int) - (n6 : Int))) w) := by
 have HB := Lib.hid (Below.refl w.heap.size w)
 have g0 : decide (left - (n3 : Int) < 0) = false := by simp; omega
 have g1 : decide (left - (n3 : Int) - (n4 : Int) < 0) = false := by simp; omega
 have g2 : decide (left - (n3 : Int) - (n4 : Int) - (n5 : Int) < 0) = false := by simp; omega
 have g3 : decide (left - (n3 : Int) - (n4 : Int) - (n5 : Int) - (n6 : Int) < 0) = false := by simp; omega
 go_enter Tryz.func7, Tryz.ntmps7
 go_wp2_with fail
 refine Calls.mono (sz_grant A3 n3 c3 (left) _ hm3 (by omega) (by omega)) ?_
 rintro e w1 hq
 obtain ⟨rfl, hb⟩ := hq.says
 obtain ⟨hc1, hf1⟩ := bcell hb
 have hs1 := hb.size
 (try simp at hs1)
 replace HB := Lib.hid (show Below w.heap.size w w1 from Below.trans aU1 (hb.mono aW))
 have z1_0 : w.heap.size < w1.heap.size := by omega
 clear hb
 go_wp2_with fail
 refine Calls.mono (sz_flow A4 n4 c4 (left - (n3 : Int)) _ hm4 (by omega) (by omega)) ?_
 rintro e w2 hq
 obtain ⟨rfl, hb⟩ := hq.says
 obtain ⟨hc2, hf2⟩ := bcell hb
 have hs2 := hb.size
 (try simp at hs2)
 replace HB := Lib.hid (show Below w.heap.size w w2 from Below.trans aU1 (hb.mono aW))
 have z2_0 : w.heap.size < w2.heap.size := by omega
 clear hb
 go_wp2_with fail
 refine Calls.mono (sz_rule A5 n5 c5 (left - (n3 : Int) - (n4 : Int)) _ hm5 (by omega) (by omega)) ?_
 rintro e w3 hq
 obtain ⟨rfl, hb⟩ := hq.says
 obtain ⟨hc3, hf3⟩ := bcell hb
 have hs3 := hb.size
 (try simp at hs3)
 replace HB := Lib.hid (show Below w.heap.size w w3 from Below.trans aU1 (hb.mono aW))
 have z3_0 : w.heap.size < w3.heap.size := by omega
 clear hb
 go_wp2_with fail
 refine Calls.mono (sz_op A6 n6 c6 (left - (n3 : Int) - (n4 : Int) - (n5 : Int)) _ hm6 (by omega) (by omega)) ?_
 rintro e w4 hq
 obtain ⟨rfl, hb⟩ := hq.says
 obtain ⟨hc4, hf4⟩ := bcell hb
 have hs4 := hb.size
 (try simp at hs4)
 replace HB := Lib.hid (show Below w.heap.size w w4 from Below.trans aU1 (hb.mono aW))
 have z4_0 : w.heap.size < w4.heap.size := by omega
 clear hb
 go_wp2_with fail
 go_ret
 exact ⟨rfl, aU1⟩

theorem szno_package (p0 : Int) (p1 : Int) (p2 : Int) (A3 : Option Addr) (n3 c3 : Nat) (A4 : Option Addr) (n4 c4 : Nat) (A5 : Option Addr) (n5 c5 : Nat) (A6 : Option Addr) (n6 c6 : Nat) (p7 : Int) (left : Int) (w : World) (hm3 : n3 ≤ 9223372036854775807) (hm4 : n4 ≤ 9223372036854775807) (hm5 : n5 ≤ 9223372036854775807) (hm6 : n6 ≤ 9223372036854775807) (h : ¬ (n3 : Int) + (n4 : Int) + (n5 : Int) + (n6 : Int) ≤ left) (hl : left ≤ 1048576) (hl0 : 0 ≤ left) :
  Calls Tryz.prog 7 #[.agg #[.int .i64 p0, .int .i64 p1, .int .i64 p2, .slice A3 n3 c3, .slice A4 n4 c4, .slice A5 n5 c5, .slice A6 n6 c6, .int .i64 p7], .int .i64 left] w (Says (.int .i64 (-1)) w) := by
 have HB := Lib.hid (Below.refl w.heap.size w)
 by_cases u0 : left < (n3 : Int)
 ·
  go_enter Tryz.func7, Tryz.ntmps7
  go_wp2_with fail
  refine Calls.mono (szno_grant A3 n3 c3 (left) _ hm3 (by omega) (by omega) (by omega)) ?_
  rintro e w1 hq
  obtain ⟨rfl, hb⟩ := hq.says
  obtain ⟨hc1, hf1⟩ := bcell hb
  have hs1 := hb.size
  (try simp at hs1)
  replace HB := Lib.hid (show Below w.heap.size w w1 from Below.trans aU1 (hb.mono aW))
  have z1_0 : w.heap.size < w1.heap.size := by omega
  clear hb
  go_wp2_with fail
  go_ret
  exact ⟨rfl, aU1⟩
 by_cases u1 : left < (n3 : Int) + (n4 : Int)
 ·
  have g0 : decide (left - (n3 : Int) < 0) = false := by simp; omega
  go_enter Tryz.func7, Tryz.ntmps7
  go_wp2_with fail
  refine Calls.mono (sz_grant A3 n3 c3 (left) _ hm3 (by omega) (by omega)) ?_
  rintro e w1 hq
  obtain ⟨rfl, hb⟩ := hq.says
  obtain ⟨hc1, hf1⟩ := bcell hb
  have hs1 := hb.size
  (try simp at hs1)
  replace HB := Lib.hid (show Below w.heap.size w w1 from Below.trans aU1 (hb.mono aW))
  have z1_0 : w.heap.size < w1.heap.size := by omega
  clear hb
  go_wp2_with fail
  refine Calls.mono (szno_flow A4 n4 c4 (left - (n3 : Int)) _ hm4 (by omega) (by omega) (by omega)) ?_
  rintro e w2 hq
  obtain ⟨rfl, hb⟩ := hq.says
  obtain ⟨hc2, hf2⟩ := bcell hb
  have hs2 := hb.size
  (try simp at hs2)
  replace HB := Lib.hid (show Below w.heap.size w w2 from Below.trans aU1 (hb.mono aW))
  have z2_0 : w.heap.size < w2.heap.size := by omega
  clear hb
  go_wp2_with fail
  go_ret
  exact ⟨rfl, aU1⟩
 by_cases u2 : left < (n3 : Int) + (n4 : Int) + (n5 : Int)
 ·
  have g0 : decide (left - (n3 : Int) < 0) = false := by simp; omega
  have g1 : decide (left - (n3 : Int) - (n4 : Int) < 0) = false := by simp; omega
  go_enter Tryz.func7, Tryz.ntmps7
  go_wp2_with fail
  refine Calls.mono (sz_grant A3 n3 c3 (left) _ hm3 (by omega) (by omega)) ?_
  rintro e w1 hq
  obtain ⟨rfl, hb⟩ := hq.says
  obtain ⟨hc1, hf1⟩ := bcell hb
  have hs1 := hb.size
  (try simp at hs1)
  replace HB := Lib.hid (show Below w.heap.size w w1 from Below.trans aU1 (hb.mono aW))
  have z1_0 : w.heap.size < w1.heap.size := by omega
  clear hb
  go_wp2_with fail
  refine Calls.mono (sz_flow A4 n4 c4 (left - (n3 : Int)) _ hm4 (by omega) (by omega)) ?_
  rintro e w2 hq
  obtain ⟨rfl, hb⟩ := hq.says
  obtain ⟨hc2, hf2⟩ := bcell hb
  have hs2 := hb.size
  (try simp at hs2)
  replace HB := Lib.hid (show Below w.heap.size w w2 from Below.trans aU1 (hb.mono aW))
  have z2_0 : w.heap.size < w2.heap.size := by omega
  clear hb
  go_wp2_with fail
  refine Calls.mono (szno_rule A5 n5 c5 (left - (n3 : Int) - (n4 : Int)) _ hm5 (by omega) (by omega) (by omega)) ?_
  rintro e w3 hq
  obtain ⟨rfl, hb⟩ := hq.says
  obtain ⟨hc3, hf3⟩ := bcell hb
  have hs3 := hb.size
  (try simp at hs3)
  replace HB := Lib.hid (show Below w.heap.size w w3 from Below.trans aU1 (hb.mono aW))
  have z3_0 : w.heap.size < w3.heap.size := by omega
  clear hb
  go_wp2_with fail
  go_ret
  exact ⟨rfl, aU1⟩
 have g0 : decide (left - (n3 : Int) < 0) = false := by simp; omega
 have g1 : decide (left - (n3 : Int) - (n4 : Int) < 0) = false := by simp; omega
 have g2 : decide (left - (n3 : Int) - (n4 : Int) - (n5 : Int) < 0) = false := by simp; omega
 go_enter Tryz.func7, Tryz.ntmps7
 go_wp2_with fail
 refine Calls.mono (sz_grant A3 n3 c3 (left) _ hm3 (by omega) (by omega)) ?_
 rintro e w1 hq
 obtain ⟨rfl, hb⟩ := hq.says
 obtain ⟨hc1, hf1⟩ := bcell hb
 have hs1 := hb.size
 (try simp at hs1)
 replace HB := Lib.hid (show Below w.heap.size w w1 from Below.trans aU1 (hb.mono aW))
 have z1_0 : w.heap.size < w1.heap.size := by omega
 clear hb
 go_wp2_with fail
 refine Calls.mono (sz_flow A4 n4 c4 (left - (n3 : Int)) _ hm4 (by omega) (by omega)) ?_
 rintro e w2 hq
 obtain ⟨rfl, hb⟩ := hq.says
 obtain ⟨hc2, hf2⟩ := bcell hb
 have hs2 := hb.size
 (try simp at hs2)
 replace HB := Lib.hid (show Below w.heap.size w w2 from Below.trans aU1 (hb.mono aW))
 have z2_0 : w.heap.size < w2.heap.size := by omega
 clear hb
 go_wp2_with fail
 refine Calls.mono (sz_rule A5 n5 c5 (left - (n3 : Int) - (n4 : Int)) _ hm5 (by omega) (by omega)) ?_
 rintro e w3 hq
 obtain ⟨rfl, hb⟩ := hq.says
 obtain ⟨hc3, hf3⟩ := bcell hb
 have hs3 := hb.size
 (try simp at hs3)
 replace HB := Lib.hid (show Below w.heap.size w w3 from Below.trans aU1 (hb.mono aW))
 have z3_0 : w.heap.size < w3.heap.size := by omega
 clear hb
 go_wp2_with fail
 refine Calls.mono (szno_op A6 n6 c6 (left - (n3 : Int) - (n4 : Int) - (n5 : Int)) _ hm6 (by omega) (by omega) (by omega)) ?_
 rintro e w4 hq
 obtain ⟨rfl, hb⟩ := hq.says
 obtain ⟨hc4, hf4⟩ := bcell hb
 have hs4 := hb.size
 (try simp at hs4)
 replace HB := Lib.hid (show Below w.heap.size w w4 from Below.trans aU1 (hb.mono aW))
 have z4_0 : w.heap.size < w4.heap.size := by omega
 clear hb
 go_wp2_with fail
 go_ret
 exact ⟨rfl, aU1⟩

theorem eq_package_same (p0 : Int) (p1 : Int) (p2 : Int) (l3 : List TGrant) (n3 : Nat) (A3 A3' : Option Addr) (c3 c3' lo3 hi3 lo3' hi3' : Nat) (l4 : List TFlow) (n4 : Nat) (A4 A4' : Option Addr) (c4 c4' lo4 hi4 lo4' hi4' : Nat) (l5 : List TRule) (n5 : Nat) (A5 A5' : Option Addr) (c5 c5' lo5 hi5 lo5' hi5' : Nat) (l6 : List TOp) (n6 : Nat) (A6 A6' : Option Addr) (c6 c6' lo6 hi6 lo6' hi6' : Nat) (p7 : Int) (w : World) (hn3 : n3 ≤ 17179869184) (hn4 : n4 ≤ 17179869184) (hn5 : n5 ≤ 17179869184) (hn6 : n6 ≤ 17179869184) (r3 : Rd w lo3 hi3 7 A3 n3 (cGrant l3)) (r4 : Rd w lo4 hi4 3 A4 n4 (cFlow l4)) (r5 : Rd w lo5 hi5 8 A5 n5 (cRule l5)) (r6 : Rd w lo6 hi6 4 A6 n6 (cOp l6)) (r3' : Rd w lo3' hi3' 7 A3' n3 (cGrant l3)) (r4' : Rd w lo4' hi4' 3 A4' n4 (cFlow l4)) (r5' : Rd w lo5' hi5' 8 A5' n5 (cRule l5)) (r6' : Rd w lo6' hi6' 4 A6' n6 (cOp l6)) :
  Calls Tryz.prog 11 #[.agg #[.int .i64 p0, .int .i64 p1, .int .i64 p2, .slice A3 n3 c3, .slice A4 n4 c4, .slice A5 n5 c5, .slice A6 n6 c6, .int .i64 p7], .agg #[.int .i64 p0, .int .i64 p1, .int .i64 p2, .slice A3' n3 c3', .slice A4' n4 c4', .slice A5' n5 c5', .slice A6' n6 c6', .int .i64 p7]] w (Says (.bool true) w) := by
 have R3 := Lib.hid r3
 have R3' := Lib.hid r3'
 clear r3 r3'
 have R4 := Lib.hid r4
 have R4' := Lib.hid r4'
 clear r4 r4'
 have R5 := Lib.hid r5
 have R5' := Lib.hid r5'
 clear r5 r5'
 have R6 := Lib.hid r6
 have R6' := Lib.hid r6'
 clear r6 r6'
 have HB := Lib.hid (Below.refl w.heap.size w)
 go_enter Tryz.func11, Tryz.ntmps11
 go_wp2_with fail
 refine Calls.mono (eq_grant_same l3 A3 A3' n3 n3 c3 c3' lo3 hi3 lo3' hi3' _ (by omega) (by omega) (R3.out.new aU1) (R3'.out.new aU1)) ?_
 rintro e w1 ⟨rfl, hb⟩
 obtain ⟨hc1, hf1⟩ := bcell hb
 have hs1 := hb.size
 (try simp at hs1)
 replace HB := Lib.hid (show Below w.heap.size w w1 from Below.trans aU1 (hb.mono aW))
 have z1_0 : w.heap.size < w1.heap.size := by omega
 have z1_1 : w.heap.size + 1 < w1.heap.size := by omega
 clear hb
 go_wp2_with fail
 refine Calls.mono (eq_flow_same l4 A4 A4' n4 n4 c4 c4' lo4 hi4 lo4' hi4' _ (by omega) (by omega) (R4.out.new aU1) (R4'.out.new aU1)) ?_
 rintro e w2 ⟨rfl, hb⟩
 obtain ⟨hc2, hf2⟩ := bcell hb
 have hs2 := hb.size
 (try simp at hs2)
 replace HB := Lib.hid (show Below w.heap.size w w2 from Below.trans aU1 (hb.mono aW))
 have z2_0 : w.heap.size < w2.heap.size := by omega
 have z2_1 : w.heap.size + 1 < w2.heap.size := by omega
 clear hb
 go_wp2_with fail
 refine Calls.mono (eq_rule_same l5 A5 A5' n5 n5 c5 c5' lo5 hi5 lo5' hi5' _ (by omega) (by omega) (R5.out.new aU1) (R5'.out.new aU1)) ?_
 rintro e w3 ⟨rfl, hb⟩
 obtain ⟨hc3, hf3⟩ := bcell hb
 have hs3 := hb.size
 (try simp at hs3)
 replace HB := Lib.hid (show Below w.heap.size w w3 from Below.trans aU1 (hb.mono aW))
 have z3_0 : w.heap.size < w3.heap.size := by omega
 have z3_1 : w.heap.size + 1 < w3.heap.size := by omega
 clear hb
 go_wp2_with fail
 refine Calls.mono (eq_op_same l6 A6 A6' n6 n6 c6 c6' lo6 hi6 lo6' hi6' _ (by omega) (by omega) (R6.out.new aU1) (R6'.out.new aU1)) ?_
 rintro e w4 ⟨rfl, hb⟩
 obtain ⟨hc4, hf4⟩ := bcell hb
 have hs4 := hb.size
 (try simp at hs4)
 replace HB := Lib.hid (show Below w.heap.size w w4 from Below.trans aU1 (hb.mono aW))
 have z4_0 : w.heap.size < w4.heap.size := by omega
 have z4_1 : w.heap.size + 1 < w4.heap.size := by omega
 clear hb
 go_wp2_with fail
 go_ret
 exact ⟨rfl, aU1⟩

end Go.Proofs.YtkedacmpmancbaaGreatDoor
