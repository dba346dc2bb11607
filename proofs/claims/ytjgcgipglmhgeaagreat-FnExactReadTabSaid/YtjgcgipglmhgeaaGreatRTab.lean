/- The laws' own helpers on Tab: read, copied, compared, sized, marked, and the marks looked for. -/
import Derived.Test.YtjgcgipglmhgeaaGreatRich
import Derived.Test.YtjgcgipglmhgeaaGreatSlI
import Derived.Test.YtjgcgipglmhgeaaGreatTEdit
import Derived.Test.YtjgcgipglmhgeaaGreatTNode
import Derived.Test.YtjgcgipglmhgeaaGreatTSite
import Derived.StillTailTactics
import Derived.Deep.RegionHeld3
import Derived.Deep.DeepCutAuto
namespace Go.Proofs.YtjgcgipglmhgeaaGreat
open Go Go.ChangeShapes Go.WideShapes Go.ChangeAt Go.RowKit Go.Lib
set_option linter.unusedVariables false
set_option linter.unusedSimpArgs false
set_option maxRecDepth 100000
set_option maxHeartbeats 4000000

/-- Where the slices lie: each in blocks of its own, all from lo on and below hi. -/
def SepTab (lo hi lo1 hi1 lo2 hi2 lo3 hi3 : Nat) : Prop := lo ≤ lo1 ∧ lo1 ≤ hi1 ∧ hi1 ≤ hi ∧ lo ≤ lo2 ∧ lo2 ≤ hi2 ∧ hi2 ≤ hi ∧ lo ≤ lo3 ∧ lo3 ≤ hi3 ∧ hi3 ≤ hi ∧ (hi1 ≤ lo2 ∨ hi2 ≤ lo1) ∧ (hi1 ≤ lo3 ∨ hi3 ≤ lo1) ∧ (hi2 ≤ lo3 ∨ hi3 ≤ lo2)
theorem SepTab_bd {lo hi lo1 hi1 lo2 hi2 lo3 hi3 : Nat} (h : SepTab lo hi lo1 hi1 lo2 hi2 lo3 hi3) : lo ≤ lo1 ∧ lo1 ≤ hi1 ∧ hi1 ≤ hi ∧ lo ≤ lo2 ∧ lo2 ≤ hi2 ∧ hi2 ≤ hi ∧ lo ≤ lo3 ∧ lo3 ≤ hi3 ∧ hi3 ≤ hi := by unfold SepTab at h; omega
/-- A call that answers a new Tab of these parts and leaves what was there. -/
def MakesTab (s0 : TSite) (n1 : Nat) (l1 : List TNode) (n2 : Nat) (l2 : List TEdit) (n3 : Nat) (l3 : List Int) (p4 : Int) (w : World) (e : Ending) (w' : World) : Prop :=
  ∃ (A1 A2 A3 : Option Addr) (c1 lo1 hi1 c2 lo2 hi2 c3 lo3 hi3 : Nat), e = .returned (.agg #[.int .i64 s0.f0, .int .i64 s0.f1, .slice A1 n1 c1, .slice A2 n2 c2, .slice A3 n3 c3, .int .i64 p4]) ∧ Fr w' lo1 hi1 70 5 A1 n1 c1 (cNode l1) ∧ Fr w' lo2 hi2 157 6 A2 n2 c2 (cEdit l2) ∧ Fr w' lo3 hi3 3 1 A3 n3 c3 (i64s l3) ∧ Hid (SepTab w.heap.size w'.heap.size lo1 hi1 lo2 hi2 lo3 hi3) ∧ Below w.heap.size w w'
section
variable {H : Type} {enc : TypeId × Value → H}
theorem open_tab {W : World} {base : Nat} {v : Value} {d : DataW H} {p : List MemPlace} (hv : Value.okWide Tryz.prog W .any base 88 v)
    (h : DataW.Trod enc Tryz.prog W 0 (fun _ => true) true 88 v d p) (hlt : ∀ x ∈ p, x.block < W.heap.size) :
    ∃ (s0 : TSite) (A1 : Option Addr) (n1 c1 : Nat) (l1 : List TNode) (A2 : Option Addr) (n2 c2 : Nat) (l2 : List TEdit) (A3 : Option Addr) (n3 c3 : Nat) (l3 : List Int) (p4 : Int), v = .agg #[.int .i64 s0.f0, .int .i64 s0.f1, .slice A1 n1 c1, .slice A2 n2 c2, .slice A3 n3 c3, .int .i64 p4] ∧ Hid (TSite.fit s0) ∧ n1 ≤ maxLen ∧ Rd W 0 W.heap.size 5 A1 n1 (cNode l1) ∧ Hid (cNodeOk l1) ∧ n2 ≤ maxLen ∧ Rd W 0 W.heap.size 6 A2 n2 (cEdit l2) ∧ Hid (cEditOk l2) ∧ n3 ≤ maxLen ∧ Rd W 0 W.heap.size 1 A3 n3 (i64s l3) ∧ Hid (I64s l3) ∧ (Lit.int .i64 p4).wf = true := by
  obtain ⟨cs, rfl, hsz⟩ := okWide_struct Tryz.underlying88 hv
  obtain ⟨fuel, hq⟩ := h
  obtain ⟨ys, n, _, hx, hlen, hyl, hf⟩ := DataW.trod_struct Tryz.underlying88 hq
  have hx2 := congrArg Prod.snd hx
  simp only at hx2
  subst hx2
  have hlen : cs.size = 6 := hsz.trans (by kernel_rfl)
  have hyl : ys.length = 5 := hyl
  have hlt' : ∀ (i : Nat) (y : DataW H × List MemPlace), ys[i]? = some y → ∀ x ∈ y.2, x.block < W.heap.size := fun i y hy x hx => hlt x (List.mem_flatMap.2 ⟨y, List.mem_of_getElem? hy, hx⟩)
  obtain ⟨cl⟩ := cs
  match cl, hlen with
  | [z0, z1, z2, z3, z4, z5], _ =>
    have h0 := hf 0 _ rfl
    have h0' : DataW.trod enc Tryz.prog W 0 (fun _ => true) true n 84 [z0, z1] = some (ys[0]'(by omega)) := by
      refine Eq.trans ?_ (h0.trans (List.getElem?_eq_getElem (by omega)))
      rfl
    obtain ⟨x0, e0, g0⟩ := read_site h0'
    simp only [TSite.cells, List.cons.injEq, and_true] at e0
    have h1 := hf 1 _ rfl
    have h1' : DataW.trod enc Tryz.prog W 0 (fun _ => true) true n 85 [z2] = some (ys[1]'(by omega)) := by
      refine Eq.trans ?_ (h1.trans (List.getElem?_eq_getElem (by omega)))
      rfl
    obtain ⟨A1, n1, c1, l1, e1, m1, r1, k1⟩ := rows_trod (c := TNode.cells) (fit := TNode.fit) (d := (ys[1]'(by omega)).1) (p := (ys[1]'(by omega)).2) Tryz.underlying85 (by kernel_rfl) TNode.len (by decide) (fun h => read_node h) h1' (hlt' 1 _ (List.getElem?_eq_getElem (by omega)))
    have h2 := hf 2 _ rfl
    have h2' : DataW.trod enc Tryz.prog W 0 (fun _ => true) true n 86 [z3] = some (ys[2]'(by omega)) := by
      refine Eq.trans ?_ (h2.trans (List.getElem?_eq_getElem (by omega)))
      rfl
    obtain ⟨A2, n2, c2, l2, e2, m2, r2, k2⟩ := rows_trod (c := TEdit.cells) (fit := TEdit.fit) (d := (ys[2]'(by omega)).1) (p := (ys[2]'(by omega)).2) Tryz.underlying86 (by kernel_rfl) TEdit.len (by decide) (fun h => read_edit h) h2' (hlt' 2 _ (List.getElem?_eq_getElem (by omega)))
    have h3 := hf 3 _ rfl
    have h3' : DataW.trod enc Tryz.prog W 0 (fun _ => true) true n 59 [z4] = some (ys[3]'(by omega)) := by
      refine Eq.trans ?_ (h3.trans (List.getElem?_eq_getElem (by omega)))
      rfl
    obtain ⟨A3, n3, c3, l3, e3, m3, r3, k3⟩ := ints_trod (d := (ys[3]'(by omega)).1) (p := (ys[3]'(by omega)).2) Tryz.underlying59 Tryz.underlying3 (by kernel_rfl) h3' (hlt' 3 _ (List.getElem?_eq_getElem (by omega)))
    have h4 := hf 4 _ rfl
    have h4' : DataW.trod enc Tryz.prog W 0 (fun _ => true) true n 3 [z5] = some (ys[4]'(by omega)) := by
      refine Eq.trans ?_ (h4.trans (List.getElem?_eq_getElem (by omega)))
      rfl
    obtain ⟨x4, e4, _, w4⟩ := DataW.trod_int Tryz.underlying3 h4'
    refine ⟨x0, A1, n1, c1, l1, A2, n2, c2, l2, A3, n3, c3, l3, x4, ?_, Lib.hid g0, m1, r1, k1, m2, r2, k2, m3, r3, k3, w4⟩
    simp only [List.cons.injEq, and_true] at e0 e1 e2 e3 e4
    simp_all
end
theorem to_tab (s0 : TSite) (l1 : List TNode) (A1 : Option Addr) (n1 c1 lo1 hi1 : Nat) (l2 : List TEdit) (A2 : Option Addr) (n2 c2 lo2 hi2 : Nat) (l3 : List Int) (A3 : Option Addr) (n3 c3 lo3 hi3 : Nat) (p4 : Int) (w : World) (hn1 : n1 ≤ 17179869184) (r1 : Rd w lo1 hi1 5 A1 n1 (cNode l1)) (hn2 : n2 ≤ 17179869184) (r2 : Rd w lo2 hi2 6 A2 n2 (cEdit l2)) (hn3 : n3 ≤ 17179869184) (r3 : Rd w lo3 hi3 1 A3 n3 (i64s l3)) :
    Calls Tryz.prog 53 #[.agg #[.int .i64 s0.f0, .int .i64 s0.f1, .slice A1 n1 c1, .slice A2 n2 c2, .slice A3 n3 c3, .int .i64 p4]] w (MakesTab s0 n1 l1 n2 l2 n3 l3 p4 w) := by
  have R1 := Lib.hid r1
  have R2 := Lib.hid r2
  have R3 := Lib.hid r3
  clear r1 r2 r3
  have HB := Lib.hid (Below.refl w.heap.size w)
  go_enter Tryz.func53, Tryz.ntmps53
  go_wp2_with fail
  refine Calls.mono (to_site_one s0 _) ?_
  rintro e w1 ⟨rfl, hb⟩
  obtain ⟨hc1, hf1⟩ := bcell hb
  have hs1 := hb.size
  (try simp at hs1)
  replace HB := Lib.hid (show Below w.heap.size w w1 from Below.trans (by repeat (first | with_reducible exact Below.refl _ _ | (with_reducible exact HB.out) | (with_reducible refine Below.setCell ?_ (by first | omega | (simp; done) | (simp <;> omega)) _) | (with_reducible refine Below.alloc ?_ (by first | omega | (simp; done) | (simp <;> omega)) _) | (refine Below.alloc ?_ (by first | omega | (simp; done) | (simp <;> omega)) _) | (refine Below.setCell ?_ (by first | omega | (simp; done) | (simp <;> omega)) _))) (hb.mono (by first | omega | (simp; done) | (simp <;> omega))))
  have z1_0 : w.heap.size < w1.heap.size := by omega
  have z1_1 : w.heap.size + 1 < w1.heap.size := by omega
  have z1_2 : w.heap.size + 1 + 1 < w1.heap.size := by omega
  clear hb
  go_wp2_with fail
  refine Calls.mono (to_node l1 A1 n1 c1 lo1 hi1 _ (by omega) (R1.out.new (by repeat (first | with_reducible exact Below.refl _ _ | (with_reducible exact HB.out) | (with_reducible refine Below.setCell ?_ (by first | omega | (simp; done) | (simp <;> omega)) _) | (with_reducible refine Below.alloc ?_ (by first | omega | (simp; done) | (simp <;> omega)) _) | (refine Below.alloc ?_ (by first | omega | (simp; done) | (simp <;> omega)) _) | (refine Below.setCell ?_ (by first | omega | (simp; done) | (simp <;> omega)) _))))) ?_
  rintro e w2 ⟨B1, d1, rfl, F1, hb⟩
  obtain ⟨hc2, hf2⟩ := bcell hb
  have hs2 := hb.size
  (try simp at hs2)
  replace HB := Lib.hid (show Below w.heap.size w w2 from Below.trans (by repeat (first | with_reducible exact Below.refl _ _ | (with_reducible exact HB.out) | (with_reducible refine Below.setCell ?_ (by first | omega | (simp; done) | (simp <;> omega)) _) | (with_reducible refine Below.alloc ?_ (by first | omega | (simp; done) | (simp <;> omega)) _) | (refine Below.alloc ?_ (by first | omega | (simp; done) | (simp <;> omega)) _) | (refine Below.setCell ?_ (by first | omega | (simp; done) | (simp <;> omega)) _))) (hb.mono (by first | omega | (simp; done) | (simp <;> omega))))
  have z2_0 : w.heap.size < w2.heap.size := by omega
  have z2_1 : w.heap.size + 1 < w2.heap.size := by omega
  have z2_2 : w.heap.size + 1 + 1 < w2.heap.size := by omega
  clear hb
  replace F1 := Lib.hid (F1.mono (lo' := w1.heap.size) (by simp) (Nat.le_refl _))
  go_wp2_with fail
  refine Calls.mono (to_edit l2 A2 n2 c2 lo2 hi2 _ (by omega) (R2.out.new (by repeat (first | with_reducible exact Below.refl _ _ | (with_reducible exact HB.out) | (with_reducible refine Below.setCell ?_ (by first | omega | (simp; done) | (simp <;> omega)) _) | (with_reducible refine Below.alloc ?_ (by first | omega | (simp; done) | (simp <;> omega)) _) | (refine Below.alloc ?_ (by first | omega | (simp; done) | (simp <;> omega)) _) | (refine Below.setCell ?_ (by first | omega | (simp; done) | (simp <;> omega)) _))))) ?_
  rintro e w3 ⟨B2, d2, rfl, F2, hb⟩
  replace F1 := Lib.hid (show Fr w3 (w1.heap.size) (w2.heap.size) 70 5 B1 n1 d1 (cNode l1) from Fr.new (by repeat (first | with_reducible exact F1.out | (with_reducible refine Fr.put ?_ (by first | omega | (simp; done) | (simp <;> omega)) _) | (with_reducible refine Fr.alloc ?_ _))) hb)
  obtain ⟨hc3, hf3⟩ := bcell hb
  have hs3 := hb.size
  (try simp at hs3)
  replace HB := Lib.hid (show Below w.heap.size w w3 from Below.trans (by repeat (first | with_reducible exact Below.refl _ _ | (with_reducible exact HB.out) | (with_reducible refine Below.setCell ?_ (by first | omega | (simp; done) | (simp <;> omega)) _) | (with_reducible refine Below.alloc ?_ (by first | omega | (simp; done) | (simp <;> omega)) _) | (refine Below.alloc ?_ (by first | omega | (simp; done) | (simp <;> omega)) _) | (refine Below.setCell ?_ (by first | omega | (simp; done) | (simp <;> omega)) _))) (hb.mono (by first | omega | (simp; done) | (simp <;> omega))))
  have z3_0 : w.heap.size < w3.heap.size := by omega
  have z3_1 : w.heap.size + 1 < w3.heap.size := by omega
  have z3_2 : w.heap.size + 1 + 1 < w3.heap.size := by omega
  clear hb
  replace F2 := Lib.hid (F2.mono (lo' := w2.heap.size) (by simp) (Nat.le_refl _))
  go_wp2_with fail
  refine Calls.mono (to_int l3 A3 n3 c3 lo3 hi3 _ (by omega) (R3.out.new (by repeat (first | with_reducible exact Below.refl _ _ | (with_reducible exact HB.out) | (with_reducible refine Below.setCell ?_ (by first | omega | (simp; done) | (simp <;> omega)) _) | (with_reducible refine Below.alloc ?_ (by first | omega | (simp; done) | (simp <;> omega)) _) | (refine Below.alloc ?_ (by first | omega | (simp; done) | (simp <;> omega)) _) | (refine Below.setCell ?_ (by first | omega | (simp; done) | (simp <;> omega)) _))))) ?_
  rintro e w4 ⟨B3, d3, rfl, F3, hb⟩
  replace F1 := Lib.hid (show Fr w4 (w1.heap.size) (w2.heap.size) 70 5 B1 n1 d1 (cNode l1) from Fr.new (by repeat (first | with_reducible exact F1.out | (with_reducible refine Fr.put ?_ (by first | omega | (simp; done) | (simp <;> omega)) _) | (with_reducible refine Fr.alloc ?_ _))) hb)
  replace F2 := Lib.hid (show Fr w4 (w2.heap.size) (w3.heap.size) 157 6 B2 n2 d2 (cEdit l2) from Fr.new (by repeat (first | with_reducible exact F2.out | (with_reducible refine Fr.put ?_ (by first | omega | (simp; done) | (simp <;> omega)) _) | (with_reducible refine Fr.alloc ?_ _))) hb)
  obtain ⟨hc4, hf4⟩ := bcell hb
  have hs4 := hb.size
  (try simp at hs4)
  replace HB := Lib.hid (show Below w.heap.size w w4 from Below.trans (by repeat (first | with_reducible exact Below.refl _ _ | (with_reducible exact HB.out) | (with_reducible refine Below.setCell ?_ (by first | omega | (simp; done) | (simp <;> omega)) _) | (with_reducible refine Below.alloc ?_ (by first | omega | (simp; done) | (simp <;> omega)) _) | (refine Below.alloc ?_ (by first | omega | (simp; done) | (simp <;> omega)) _) | (refine Below.setCell ?_ (by first | omega | (simp; done) | (simp <;> omega)) _))) (hb.mono (by first | omega | (simp; done) | (simp <;> omega))))
  have z4_0 : w.heap.size < w4.heap.size := by omega
  have z4_1 : w.heap.size + 1 < w4.heap.size := by omega
  have z4_2 : w.heap.size + 1 + 1 < w4.heap.size := by omega
  clear hb
  replace F3 := Lib.hid (F3.mono (lo' := w3.heap.size) (by simp) (Nat.le_refl _))
  go_wp2_with fail
  exact bodyPost_ret (v := .agg #[.int .i64 s0.f0, .int .i64 s0.f1, .slice B1 n1 d1, .slice B2 n2 d2, .slice B3 n3 d3, .int .i64 p4]) (by simp [results, Tryz.results53, go_sem, hc1, z1_0, z1_1, z1_2, hc2, z2_0, z2_1, z2_2, hc3, z3_0, z3_1, z3_2, hc4, z4_0, z4_1, z4_2]) rfl
    ⟨B1, B2, B3, d1, w1.heap.size, w2.heap.size, d2, w2.heap.size, w3.heap.size, d3, w3.heap.size, w4.heap.size, rfl, (by repeat (first | with_reducible exact F1.out | (with_reducible refine Fr.put ?_ (by first | omega | (simp; done) | (simp <;> omega)) _) | (with_reducible refine Fr.alloc ?_ _))), (by repeat (first | with_reducible exact F2.out | (with_reducible refine Fr.put ?_ (by first | omega | (simp; done) | (simp <;> omega)) _) | (with_reducible refine Fr.alloc ?_ _))), (by repeat (first | with_reducible exact F3.out | (with_reducible refine Fr.put ?_ (by first | omega | (simp; done) | (simp <;> omega)) _) | (with_reducible refine Fr.alloc ?_ _))),
      Lib.hid (by unfold SepTab; simp; omega), by repeat (first | with_reducible exact Below.refl _ _ | (with_reducible exact HB.out) | (with_reducible refine Below.setCell ?_ (by first | omega | (simp; done) | (simp <;> omega)) _) | (with_reducible refine Below.alloc ?_ (by first | omega | (simp; done) | (simp <;> omega)) _) | (refine Below.alloc ?_ (by first | omega | (simp; done) | (simp <;> omega)) _) | (refine Below.setCell ?_ (by first | omega | (simp; done) | (simp <;> omega)) _))⟩

theorem sz_int (A : Option Addr) (n c : Nat) (left : Int) (w : World) (hn : n ≤ 9223372036854775807) (h : (n : Int) ≤ left) (hl : left ≤ 1048576) :
    Calls Tryz.prog 77 #[.slice A n c, .int .i64 left] w (Quiet (.int .i64 (left - n)) w) := by
  have hd : decide (left - n < 0) = false := by simp; omega
  go_enter Tryz.func77, Tryz.ntmps77
  go_wp2_with fail
  go_ret
  exact ⟨rfl, 0, rfl⟩
theorem szno_int (A : Option Addr) (n c : Nat) (left : Int) (w : World) (hn : n ≤ 9223372036854775807) (h : ¬ (n : Int) ≤ left) (hl : left ≤ 1048576) (hl0 : 0 ≤ left) :
    Calls Tryz.prog 77 #[.slice A n c, .int .i64 left] w (Quiet (.int .i64 (-1)) w) := by
  have hd : decide (left - n < 0) = true := by simp; omega
  go_enter Tryz.func77, Tryz.ntmps77
  go_wp2_with fail
  go_ret
  exact ⟨rfl, 0, rfl⟩

theorem sz_tab (s0 : TSite) (A1 : Option Addr) (n1 c1 : Nat) (A2 : Option Addr) (n2 c2 : Nat) (A3 : Option Addr) (n3 c3 : Nat) (p4 : Int) (left : Int) (w : World) (hm1 : n1 ≤ 9223372036854775807) (hm2 : n2 ≤ 9223372036854775807) (hm3 : n3 ≤ 9223372036854775807) (h : (n1 : Int) + (n2 : Int) + (n3 : Int) ≤ left) (hl : left ≤ 1048576) :
    Calls Tryz.prog 44 #[.agg #[.int .i64 s0.f0, .int .i64 s0.f1, .slice A1 n1 c1, .slice A2 n2 c2, .slice A3 n3 c3, .int .i64 p4], .int .i64 left] w (Says (.int .i64 (left - (n1 : Int) - (n2 : Int) - (n3 : Int))) w) := by
  have HB := Lib.hid (Below.refl w.heap.size w)
  have g0 : decide (left - (n1 : Int) < 0) = false := by simp; omega
  have g1 : decide (left - (n1 : Int) - (n2 : Int) < 0) = false := by simp; omega
  have g2 : decide (left - (n1 : Int) - (n2 : Int) - (n3 : Int) < 0) = false := by simp; omega
  go_enter Tryz.func44, Tryz.ntmps44
  go_wp2_with fail
  refine Calls.mono (sz_node A1 n1 c1 (left) _ hm1 (by omega) (by omega)) ?_
  rintro e w1 hq
  obtain ⟨rfl, hb⟩ := hq.says
  obtain ⟨hc1, hf1⟩ := bcell hb
  have hs1 := hb.size
  (try simp at hs1)
  replace HB := Lib.hid (show Below w.heap.size w w1 from Below.trans (by repeat (first | with_reducible exact Below.refl _ _ | (with_reducible exact HB.out) | (with_reducible refine Below.setCell ?_ (by first | omega | (simp; done) | (simp <;> omega)) _) | (with_reducible refine Below.alloc ?_ (by first | omega | (simp; done) | (simp <;> omega)) _) | (refine Below.alloc ?_ (by first | omega | (simp; done) | (simp <;> omega)) _) | (refine Below.setCell ?_ (by first | omega | (simp; done) | (simp <;> omega)) _))) (hb.mono (by first | omega | (simp; done) | (simp <;> omega))))
  have z1_0 : w.heap.size < w1.heap.size := by omega
  clear hb
  go_wp2_with fail
  refine Calls.mono (sz_edit A2 n2 c2 (left - (n1 : Int)) _ hm2 (by omega) (by omega)) ?_
  rintro e w2 hq
  obtain ⟨rfl, hb⟩ := hq.says
  obtain ⟨hc2, hf2⟩ := bcell hb
  have hs2 := hb.size
  (try simp at hs2)
  replace HB := Lib.hid (show Below w.heap.size w w2 from Below.trans (by repeat (first | with_reducible exact Below.refl _ _ | (with_reducible exact HB.out) | (with_reducible refine Below.setCell ?_ (by first | omega | (simp; done) | (simp <;> omega)) _) | (with_reducible refine Below.alloc ?_ (by first | omega | (simp; done) | (simp <;> omega)) _) | (refine Below.alloc ?_ (by first | omega | (simp; done) | (simp <;> omega)) _) | (refine Below.setCell ?_ (by first | omega | (simp; done) | (simp <;> omega)) _))) (hb.mono (by first | omega | (simp; done) | (simp <;> omega))))
  have z2_0 : w.heap.size < w2.heap.size := by omega
  clear hb
  go_wp2_with fail
  refine Calls.mono (sz_int A3 n3 c3 (left - (n1 : Int) - (n2 : Int)) _ hm3 (by omega) (by omega)) ?_
  rintro e w3 hq
  obtain ⟨rfl, hb⟩ := hq.says
  obtain ⟨hc3, hf3⟩ := bcell hb
  have hs3 := hb.size
  (try simp at hs3)
  replace HB := Lib.hid (show Below w.heap.size w w3 from Below.trans (by repeat (first | with_reducible exact Below.refl _ _ | (with_reducible exact HB.out) | (with_reducible refine Below.setCell ?_ (by first | omega | (simp; done) | (simp <;> omega)) _) | (with_reducible refine Below.alloc ?_ (by first | omega | (simp; done) | (simp <;> omega)) _) | (refine Below.alloc ?_ (by first | omega | (simp; done) | (simp <;> omega)) _) | (refine Below.setCell ?_ (by first | omega | (simp; done) | (simp <;> omega)) _))) (hb.mono (by first | omega | (simp; done) | (simp <;> omega))))
  have z3_0 : w.heap.size < w3.heap.size := by omega
  clear hb
  go_wp2_with fail
  go_ret
  exact ⟨rfl, by repeat (first | with_reducible exact Below.refl _ _ | (with_reducible exact HB.out) | (with_reducible refine Below.setCell ?_ (by first | omega | (simp; done) | (simp <;> omega)) _) | (with_reducible refine Below.alloc ?_ (by first | omega | (simp; done) | (simp <;> omega)) _) | (refine Below.alloc ?_ (by first | omega | (simp; done) | (simp <;> omega)) _) | (refine Below.setCell ?_ (by first | omega | (simp; done) | (simp <;> omega)) _))⟩

theorem szno_tab (s0 : TSite) (A1 : Option Addr) (n1 c1 : Nat) (A2 : Option Addr) (n2 c2 : Nat) (A3 : Option Addr) (n3 c3 : Nat) (p4 : Int) (left : Int) (w : World) (hm1 : n1 ≤ 9223372036854775807) (hm2 : n2 ≤ 9223372036854775807) (hm3 : n3 ≤ 9223372036854775807) (h : ¬ (n1 : Int) + (n2 : Int) + (n3 : Int) ≤ left) (hl : left ≤ 1048576) (hl0 : 0 ≤ left) :
    Calls Tryz.prog 44 #[.agg #[.int .i64 s0.f0, .int .i64 s0.f1, .slice A1 n1 c1, .slice A2 n2 c2, .slice A3 n3 c3, .int .i64 p4], .int .i64 left] w (Says (.int .i64 (-1)) w) := by
  have HB := Lib.hid (Below.refl w.heap.size w)
  by_cases u0 : left < (n1 : Int)
  · skip
    go_enter Tryz.func44, Tryz.ntmps44
    go_wp2_with fail
    refine Calls.mono (szno_node A1 n1 c1 (left) _ hm1 (by omega) (by omega) (by omega)) ?_
    rintro e w1 hq
    obtain ⟨rfl, hb⟩ := hq.says
    obtain ⟨hc1, hf1⟩ := bcell hb
    have hs1 := hb.size
    (try simp at hs1)
    replace HB := Lib.hid (show Below w.heap.size w w1 from Below.trans (by repeat (first | with_reducible exact Below.refl _ _ | (with_reducible exact HB.out) | (with_reducible refine Below.setCell ?_ (by first | omega | (simp; done) | (simp <;> omega)) _) | (with_reducible refine Below.alloc ?_ (by first | omega | (simp; done) | (simp <;> omega)) _) | (refine Below.alloc ?_ (by first | omega | (simp; done) | (simp <;> omega)) _) | (refine Below.setCell ?_ (by first | omega | (simp; done) | (simp <;> omega)) _))) (hb.mono (by first | omega | (simp; done) | (simp <;> omega))))
    have z1_0 : w.heap.size < w1.heap.size := by omega
    clear hb
    go_wp2_with fail
    go_ret
    exact ⟨rfl, by repeat (first | with_reducible exact Below.refl _ _ | (with_reducible exact HB.out) | (with_reducible refine Below.setCell ?_ (by first | omega | (simp; done) | (simp <;> omega)) _) | (with_reducible refine Below.alloc ?_ (by first | omega | (simp; done) | (simp <;> omega)) _) | (refine Below.alloc ?_ (by first | omega | (simp; done) | (simp <;> omega)) _) | (refine Below.setCell ?_ (by first | omega | (simp; done) | (simp <;> omega)) _))⟩
  by_cases u1 : left < (n1 : Int) + (n2 : Int)
  · skip
    have g0 : decide (left - (n1 : Int) < 0) = false := by simp; omega
    go_enter Tryz.func44, Tryz.ntmps44
    go_wp2_with fail
    refine Calls.mono (sz_node A1 n1 c1 (left) _ hm1 (by omega) (by omega)) ?_
    rintro e w1 hq
    obtain ⟨rfl, hb⟩ := hq.says
    obtain ⟨hc1, hf1⟩ := bcell hb
    have hs1 := hb.size
    (try simp at hs1)
    replace HB := Lib.hid (show Below w.heap.size w w1 from Below.trans (by repeat (first | with_reducible exact Below.refl _ _ | (with_reducible exact HB.out) | (with_reducible refine Below.setCell ?_ (by first | omega | (simp; done) | (simp <;> omega)) _) | (with_reducible refine Below.alloc ?_ (by first | omega | (simp; done) | (simp <;> omega)) _) | (refine Below.alloc ?_ (by first | omega | (simp; done) | (simp <;> omega)) _) | (refine Below.setCell ?_ (by first | omega | (simp; done) | (simp <;> omega)) _))) (hb.mono (by first | omega | (simp; done) | (simp <;> omega))))
    have z1_0 : w.heap.size < w1.heap.size := by omega
    clear hb
    go_wp2_with fail
    refine Calls.mono (szno_edit A2 n2 c2 (left - (n1 : Int)) _ hm2 (by omega) (by omega) (by omega)) ?_
    rintro e w2 hq
    obtain ⟨rfl, hb⟩ := hq.says
    obtain ⟨hc2, hf2⟩ := bcell hb
    have hs2 := hb.size
    (try simp at hs2)
    replace HB := Lib.hid (show Below w.heap.size w w2 from Below.trans (by repeat (first | with_reducible exact Below.refl _ _ | (with_reducible exact HB.out) | (with_reducible refine Below.setCell ?_ (by first | omega | (simp; done) | (simp <;> omega)) _) | (with_reducible refine Below.alloc ?_ (by first | omega | (simp; done) | (simp <;> omega)) _) | (refine Below.alloc ?_ (by first | omega | (simp; done) | (simp <;> omega)) _) | (refine Below.setCell ?_ (by first | omega | (simp; done) | (simp <;> omega)) _))) (hb.mono (by first | omega | (simp; done) | (simp <;> omega))))
    have z2_0 : w.heap.size < w2.heap.size := by omega
    clear hb
    go_wp2_with fail
    go_ret
    exact ⟨rfl, by repeat (first | with_reducible exact Below.refl _ _ | (with_reducible exact HB.out) | (with_reducible refine Below.setCell ?_ (by first | omega | (simp; done) | (simp <;> omega)) _) | (with_reducible refine Below.alloc ?_ (by first | omega | (simp; done) | (simp <;> omega)) _) | (refine Below.alloc ?_ (by first | omega | (simp; done) | (simp <;> omega)) _) | (refine Below.setCell ?_ (by first | omega | (simp; done) | (simp <;> omega)) _))⟩
  have g0 : decide (left - (n1 : Int) < 0) = false := by simp; omega
  have g1 : decide (left - (n1 : Int) - (n2 : Int) < 0) = false := by simp; omega
  go_enter Tryz.func44, Tryz.ntmps44
  go_wp2_with fail
  refine Calls.mono (sz_node A1 n1 c1 (left) _ hm1 (by omega) (by omega)) ?_
  rintro e w1 hq
  obtain ⟨rfl, hb⟩ := hq.says
  obtain ⟨hc1, hf1⟩ := bcell hb
  have hs1 := hb.size
  (try simp at hs1)
  replace HB := Lib.hid (show Below w.heap.size w w1 from Below.trans (by repeat (first | with_reducible exact Below.refl _ _ | (with_reducible exact HB.out) | (with_reducible refine Below.setCell ?_ (by first | omega | (simp; done) | (simp <;> omega)) _) | (with_reducible refine Below.alloc ?_ (by first | omega | (simp; done) | (simp <;> omega)) _) | (refine Below.alloc ?_ (by first | omega | (simp; done) | (simp <;> omega)) _) | (refine Below.setCell ?_ (by first | omega | (simp; done) | (simp <;> omega)) _))) (hb.mono (by first | omega | (simp; done) | (simp <;> omega))))
  have z1_0 : w.heap.size < w1.heap.size := by omega
  clear hb
  go_wp2_with fail
  refine Calls.mono (sz_edit A2 n2 c2 (left - (n1 : Int)) _ hm2 (by omega) (by omega)) ?_
  rintro e w2 hq
  obtain ⟨rfl, hb⟩ := hq.says
  obtain ⟨hc2, hf2⟩ := bcell hb
  have hs2 := hb.size
  (try simp at hs2)
  replace HB := Lib.hid (show Below w.heap.size w w2 from Below.trans (by repeat (first | with_reducible exact Below.refl _ _ | (with_reducible exact HB.out) | (with_reducible refine Below.setCell ?_ (by first | omega | (simp; done) | (simp <;> omega)) _) | (with_reducible refine Below.alloc ?_ (by first | omega | (simp; done) | (simp <;> omega)) _) | (refine Below.alloc ?_ (by first | omega | (simp; done) | (simp <;> omega)) _) | (refine Below.setCell ?_ (by first | omega | (simp; done) | (simp <;> omega)) _))) (hb.mono (by first | omega | (simp; done) | (simp <;> omega))))
  have z2_0 : w.heap.size < w2.heap.size := by omega
  clear hb
  go_wp2_with fail
  refine Calls.mono (szno_int A3 n3 c3 (left - (n1 : Int) - (n2 : Int)) _ hm3 (by omega) (by omega) (by omega)) ?_
  rintro e w3 hq
  obtain ⟨rfl, hb⟩ := hq.says
  obtain ⟨hc3, hf3⟩ := bcell hb
  have hs3 := hb.size
  (try simp at hs3)
  replace HB := Lib.hid (show Below w.heap.size w w3 from Below.trans (by repeat (first | with_reducible exact Below.refl _ _ | (with_reducible exact HB.out) | (with_reducible refine Below.setCell ?_ (by first | omega | (simp; done) | (simp <;> omega)) _) | (with_reducible refine Below.alloc ?_ (by first | omega | (simp; done) | (simp <;> omega)) _) | (refine Below.alloc ?_ (by first | omega | (simp; done) | (simp <;> omega)) _) | (refine Below.setCell ?_ (by first | omega | (simp; done) | (simp <;> omega)) _))) (hb.mono (by first | omega | (simp; done) | (simp <;> omega))))
  have z3_0 : w.heap.size < w3.heap.size := by omega
  clear hb
  go_wp2_with fail
  go_ret
  exact ⟨rfl, by repeat (first | with_reducible exact Below.refl _ _ | (with_reducible exact HB.out) | (with_reducible refine Below.setCell ?_ (by first | omega | (simp; done) | (simp <;> omega)) _) | (with_reducible refine Below.alloc ?_ (by first | omega | (simp; done) | (simp <;> omega)) _) | (refine Below.alloc ?_ (by first | omega | (simp; done) | (simp <;> omega)) _) | (refine Below.setCell ?_ (by first | omega | (simp; done) | (simp <;> omega)) _))⟩

theorem eq_tab_same (s0 : TSite) (l1 : List TNode) (n1 : Nat) (A1 A1' : Option Addr) (c1 c1' lo1 hi1 lo1' hi1' : Nat) (l2 : List TEdit) (n2 : Nat) (A2 A2' : Option Addr) (c2 c2' lo2 hi2 lo2' hi2' : Nat) (l3 : List Int) (n3 : Nat) (A3 A3' : Option Addr) (c3 c3' lo3 hi3 lo3' hi3' : Nat) (p4 : Int) (w : World) (hn1 : n1 ≤ 17179869184) (hn2 : n2 ≤ 17179869184) (hn3 : n3 ≤ 17179869184) (r1 : Rd w lo1 hi1 5 A1 n1 (cNode l1)) (r2 : Rd w lo2 hi2 6 A2 n2 (cEdit l2)) (r3 : Rd w lo3 hi3 1 A3 n3 (i64s l3)) (r1' : Rd w lo1' hi1' 5 A1' n1 (cNode l1)) (r2' : Rd w lo2' hi2' 6 A2' n2 (cEdit l2)) (r3' : Rd w lo3' hi3' 1 A3' n3 (i64s l3)) :
    Calls Tryz.prog 65 #[.agg #[.int .i64 s0.f0, .int .i64 s0.f1, .slice A1 n1 c1, .slice A2 n2 c2, .slice A3 n3 c3, .int .i64 p4], .agg #[.int .i64 s0.f0, .int .i64 s0.f1, .slice A1' n1 c1', .slice A2' n2 c2', .slice A3' n3 c3', .int .i64 p4]] w (Says (.bool true) w) := by
  have R1 := Lib.hid r1
  have R1' := Lib.hid r1'
  clear r1 r1'
  have R2 := Lib.hid r2
  have R2' := Lib.hid r2'
  clear r2 r2'
  have R3 := Lib.hid r3
  have R3' := Lib.hid r3'
  clear r3 r3'
  have HB := Lib.hid (Below.refl w.heap.size w)
  go_enter Tryz.func65, Tryz.ntmps65
  go_wp2_with fail
  refine Calls.mono (eq_site_one s0 _) ?_
  rintro e w1 ⟨rfl, hb⟩
  obtain ⟨hc1, hf1⟩ := bcell hb
  have hs1 := hb.size
  (try simp at hs1)
  replace HB := Lib.hid (show Below w.heap.size w w1 from Below.trans (by repeat (first | with_reducible exact Below.refl _ _ | (with_reducible exact HB.out) | (with_reducible refine Below.setCell ?_ (by first | omega | (simp; done) | (simp <;> omega)) _) | (with_reducible refine Below.alloc ?_ (by first | omega | (simp; done) | (simp <;> omega)) _) | (refine Below.alloc ?_ (by first | omega | (simp; done) | (simp <;> omega)) _) | (refine Below.setCell ?_ (by first | omega | (simp; done) | (simp <;> omega)) _))) (hb.mono (by first | omega | (simp; done) | (simp <;> omega))))
  have z1_0 : w.heap.size < w1.heap.size := by omega
  have z1_1 : w.heap.size + 1 < w1.heap.size := by omega
  clear hb
  go_wp2_with fail
  refine Calls.mono (eq_node_same l1 A1 A1' n1 n1 c1 c1' lo1 hi1 lo1' hi1' _ (by omega) (by omega) (R1.out.new (by repeat (first | with_reducible exact Below.refl _ _ | (with_reducible exact HB.out) | (with_reducible refine Below.setCell ?_ (by first | omega | (simp; done) | (simp <;> omega)) _) | (with_reducible refine Below.alloc ?_ (by first | omega | (simp; done) | (simp <;> omega)) _) | (refine Below.alloc ?_ (by first | omega | (simp; done) | (simp <;> omega)) _) | (refine Below.setCell ?_ (by first | omega | (simp; done) | (simp <;> omega)) _)))) (R1'.out.new (by repeat (first | with_reducible exact Below.refl _ _ | (with_reducible exact HB.out) | (with_reducible refine Below.setCell ?_ (by first | omega | (simp; done) | (simp <;> omega)) _) | (with_reducible refine Below.alloc ?_ (by first | omega | (simp; done) | (simp <;> omega)) _) | (refine Below.alloc ?_ (by first | omega | (simp; done) | (simp <;> omega)) _) | (refine Below.setCell ?_ (by first | omega | (simp; done) | (simp <;> omega)) _))))) ?_
  rintro e w2 ⟨rfl, hb⟩
  obtain ⟨hc2, hf2⟩ := bcell hb
  have hs2 := hb.size
  (try simp at hs2)
  replace HB := Lib.hid (show Below w.heap.size w w2 from Below.trans (by repeat (first | with_reducible exact Below.refl _ _ | (with_reducible exact HB.out) | (with_reducible refine Below.setCell ?_ (by first | omega | (simp; done) | (simp <;> omega)) _) | (with_reducible refine Below.alloc ?_ (by first | omega | (simp; done) | (simp <;> omega)) _) | (refine Below.alloc ?_ (by first | omega | (simp; done) | (simp <;> omega)) _) | (refine Below.setCell ?_ (by first | omega | (simp; done) | (simp <;> omega)) _))) (hb.mono (by first | omega | (simp; done) | (simp <;> omega))))
  have z2_0 : w.heap.size < w2.heap.size := by omega
  have z2_1 : w.heap.size + 1 < w2.heap.size := by omega
  clear hb
  go_wp2_with fail
  refine Calls.mono (eq_edit_same l2 A2 A2' n2 n2 c2 c2' lo2 hi2 lo2' hi2' _ (by omega) (by omega) (R2.out.new (by repeat (first | with_reducible exact Below.refl _ _ | (with_reducible exact HB.out) | (with_reducible refine Below.setCell ?_ (by first | omega | (simp; done) | (simp <;> omega)) _) | (with_reducible refine Below.alloc ?_ (by first | omega | (simp; done) | (simp <;> omega)) _) | (refine Below.alloc ?_ (by first | omega | (simp; done) | (simp <;> omega)) _) | (refine Below.setCell ?_ (by first | omega | (simp; done) | (simp <;> omega)) _)))) (R2'.out.new (by repeat (first | with_reducible exact Below.refl _ _ | (with_reducible exact HB.out) | (with_reducible refine Below.setCell ?_ (by first | omega | (simp; done) | (simp <;> omega)) _) | (with_reducible refine Below.alloc ?_ (by first | omega | (simp; done) | (simp <;> omega)) _) | (refine Below.alloc ?_ (by first | omega | (simp; done) | (simp <;> omega)) _) | (refine Below.setCell ?_ (by first | omega | (simp; done) | (simp <;> omega)) _))))) ?_
  rintro e w3 ⟨rfl, hb⟩
  obtain ⟨hc3, hf3⟩ := bcell hb
  have hs3 := hb.size
  (try simp at hs3)
  replace HB := Lib.hid (show Below w.heap.size w w3 from Below.trans (by repeat (first | with_reducible exact Below.refl _ _ | (with_reducible exact HB.out) | (with_reducible refine Below.setCell ?_ (by first | omega | (simp; done) | (simp <;> omega)) _) | (with_reducible refine Below.alloc ?_ (by first | omega | (simp; done) | (simp <;> omega)) _) | (refine Below.alloc ?_ (by first | omega | (simp; done) | (simp <;> omega)) _) | (refine Below.setCell ?_ (by first | omega | (simp; done) | (simp <;> omega)) _))) (hb.mono (by first | omega | (simp; done) | (simp <;> omega))))
  have z3_0 : w.heap.size < w3.heap.size := by omega
  have z3_1 : w.heap.size + 1 < w3.heap.size := by omega
  clear hb
  go_wp2_with fail
  refine Calls.mono (eq_int_same l3 A3 A3' n3 n3 c3 c3' lo3 hi3 lo3' hi3' _ (by omega) (by omega) (R3.out.new (by repeat (first | with_reducible exact Below.refl _ _ | (with_reducible exact HB.out) | (with_reducible refine Below.setCell ?_ (by first | omega | (simp; done) | (simp <;> omega)) _) | (with_reducible refine Below.alloc ?_ (by first | omega | (simp; done) | (simp <;> omega)) _) | (refine Below.alloc ?_ (by first | omega | (simp; done) | (simp <;> omega)) _) | (refine Below.setCell ?_ (by first | omega | (simp; done) | (simp <;> omega)) _)))) (R3'.out.new (by repeat (first | with_reducible exact Below.refl _ _ | (with_reducible exact HB.out) | (with_reducible refine Below.setCell ?_ (by first | omega | (simp; done) | (simp <;> omega)) _) | (with_reducible refine Below.alloc ?_ (by first | omega | (simp; done) | (simp <;> omega)) _) | (refine Below.alloc ?_ (by first | omega | (simp; done) | (simp <;> omega)) _) | (refine Below.setCell ?_ (by first | omega | (simp; done) | (simp <;> omega)) _))))) ?_
  rintro e w4 hq
  obtain ⟨rfl, hb⟩ := hq.says
  obtain ⟨hc4, hf4⟩ := bcell hb
  have hs4 := hb.size
  (try simp at hs4)
  replace HB := Lib.hid (show Below w.heap.size w w4 from Below.trans (by repeat (first | with_reducible exact Below.refl _ _ | (with_reducible exact HB.out) | (with_reducible refine Below.setCell ?_ (by first | omega | (simp; done) | (simp <;> omega)) _) | (with_reducible refine Below.alloc ?_ (by first | omega | (simp; done) | (simp <;> omega)) _) | (refine Below.alloc ?_ (by first | omega | (simp; done) | (simp <;> omega)) _) | (refine Below.setCell ?_ (by first | omega | (simp; done) | (simp <;> omega)) _))) (hb.mono (by first | omega | (simp; done) | (simp <;> omega))))
  have z4_0 : w.heap.size < w4.heap.size := by omega
  have z4_1 : w.heap.size + 1 < w4.heap.size := by omega
  clear hb
  go_wp2_with fail
  go_ret
  exact ⟨rfl, by repeat (first | with_reducible exact Below.refl _ _ | (with_reducible exact HB.out) | (with_reducible refine Below.setCell ?_ (by first | omega | (simp; done) | (simp <;> omega)) _) | (with_reducible refine Below.alloc ?_ (by first | omega | (simp; done) | (simp <;> omega)) _) | (refine Below.alloc ?_ (by first | omega | (simp; done) | (simp <;> omega)) _) | (refine Below.setCell ?_ (by first | omega | (simp; done) | (simp <;> omega)) _))⟩

def MarkedTab (A1 : Option Addr) (n1 c1 lo1 hi1 : Nat) (A2 : Option Addr) (n2 c2 lo2 hi2 : Nat) (A3 : Option Addr) (n3 c3 lo3 hi3 : Nat) (k0 lo hi : Nat) (w : World) (e : Ending) (w' : World) : Prop :=
  e = .returned (.int .i64 ((k0 + n1 * 5 + n2 * 6 + n3 : Nat) : Int)) ∧ Fr w' lo1 hi1 70 5 A1 n1 c1 (cNode (TNode.marks (k0) n1)) ∧ Fr w' lo2 hi2 157 6 A2 n2 c2 (cEdit (TEdit.marks (k0 + n1 * 5) n2)) ∧ Fr w' lo3 hi3 3 1 A3 n3 c3 (i64s (marks .i64 (k0 + n1 * 5 + n2 * 6) n3)) ∧ Chg lo hi w w'
end Go.Proofs.YtjgcgipglmhgeaaGreat
