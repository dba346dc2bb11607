/- The laws' own helpers on Outcome: read, copied, compared, sized, marked, and the marks looked for. -/
import Derived.Test.YtmdmihilhilkiaaRich
import Derived.Test.YtmdmihilhilkiaaTSite
import Derived.StillTailTactics
import Derived.Deep.RegionHeld3
import Derived.Deep.DeepCutAuto
namespace Go.Proofs.Ytmdmihilhilkiaa
open Go Go.ChangeShapes Go.WideShapes Go.ChangeAt Go.RowKit Go.Lib
set_option linter.unusedVariables false
set_option linter.unusedSimpArgs false
set_option maxRecDepth 100000
set_option maxHeartbeats 4000000

/-- Where the slices lie: each in blocks of its own, all from lo on and below hi. -/
def SepOutcome (lo hi lo2 hi2 : Nat) : Prop := lo ≤ lo2 ∧ lo2 ≤ hi2 ∧ hi2 ≤ hi
/-- A call that answers a new Outcome of these parts and leaves what was there. -/
def MakesOutcome (p0 : Int) (s1 : TSite) (n2 : Nat) (l2 : List TSite) (w : World) (e : Ending) (w' : World) : Prop :=
  ∃ (A2 : Option Addr) (c2 lo2 hi2 : Nat), e = .returned (.agg #[.int .i64 p0, .int .i64 s1.f0, .int .i64 s1.f1, .slice A2 n2 c2]) ∧ Fr w' lo2 hi2 53 2 A2 n2 c2 (cSite l2) ∧ Hid (SepOutcome w.heap.size w'.heap.size lo2 hi2) ∧ Below w.heap.size w w'
section
variable {H : Type} {enc : TypeId × Value → H}
theorem open_outcome {W : World} {base : Nat} {v : Value} {d : DataW H} {p : List MemPlace} (hv : Value.okWide Try.prog W .any base 50 v)
    (h : DataW.Trod enc Try.prog W 0 (fun _ => true) true 50 v d p) (hlt : ∀ x ∈ p, x.block < W.heap.size) :
    ∃ (p0 : Int) (s1 : TSite) (A2 : Option Addr) (n2 c2 : Nat) (l2 : List TSite), v = .agg #[.int .i64 p0, .int .i64 s1.f0, .int .i64 s1.f1, .slice A2 n2 c2] ∧ (Lit.int .i64 p0).wf = true ∧ Hid (TSite.fit s1) ∧ n2 ≤ maxLen ∧ Rd W 0 W.heap.size 2 A2 n2 (cSite l2) ∧ Hid (cSiteOk l2) := by
  obtain ⟨cs, rfl, hsz⟩ := okWide_struct Try.underlying50 hv
  obtain ⟨fuel, hq⟩ := h
  obtain ⟨ys, n, _, hx, hlen, hyl, hf⟩ := DataW.trod_struct Try.underlying50 hq
  have hx2 := congrArg Prod.snd hx
  simp only at hx2
  subst hx2
  have hlen : cs.size = 4 := hsz.trans (by kernel_rfl)
  have hyl : ys.length = 3 := hyl
  have hlt' : ∀ (i : Nat) (y : DataW H × List MemPlace), ys[i]? = some y → ∀ x ∈ y.2, x.block < W.heap.size := fun i y hy x hx => hlt x (List.mem_flatMap.2 ⟨y, List.mem_of_getElem? hy, hx⟩)
  obtain ⟨cl⟩ := cs
  match cl, hlen with
  | [z0, z1, z2, z3], _ =>
    have h0 := hf 0 _ rfl
    have h0' : DataW.trod enc Try.prog W 0 (fun _ => true) true n 3 [z0] = some (ys[0]'(by omega)) := by
      refine Eq.trans ?_ (h0.trans (List.getElem?_eq_getElem (by omega)))
      rfl
    obtain ⟨x0, e0, _, w0⟩ := DataW.trod_int Try.underlying3 h0'
    have h1 := hf 1 _ rfl
    have h1' : DataW.trod enc Try.prog W 0 (fun _ => true) true n 47 [z1, z2] = some (ys[1]'(by omega)) := by
      refine Eq.trans ?_ (h1.trans (List.getElem?_eq_getElem (by omega)))
      rfl
    obtain ⟨x1, e1, g1⟩ := read_site h1'
    simp only [TSite.cells, List.cons.injEq, and_true] at e1
    have h2 := hf 2 _ rfl
    have h2' : DataW.trod enc Try.prog W 0 (fun _ => true) true n 48 [z3] = some (ys[2]'(by omega)) := by
      refine Eq.trans ?_ (h2.trans (List.getElem?_eq_getElem (by omega)))
      rfl
    obtain ⟨A2, n2, c2, l2, e2, m2, r2, k2⟩ := rows_trod (c := TSite.cells) (fit := TSite.fit) (d := (ys[2]'(by omega)).1) (p := (ys[2]'(by omega)).2) Try.underlying48 (by kernel_rfl) TSite.len (by decide) (fun h => read_site h) h2' (hlt' 2 _ (List.getElem?_eq_getElem (by omega)))
    refine ⟨x0, x1, A2, n2, c2, l2, ?_, w0, Lib.hid g1, m2, r2, k2⟩
    simp only [List.cons.injEq, and_true] at e0 e1 e2
    simp_all
end
theorem to_outcome (p0 : Int) (s1 : TSite) (l2 : List TSite) (A2 : Option Addr) (n2 c2 lo2 hi2 : Nat) (w : World) (hn2 : n2 ≤ 17179869184) (r2 : Rd w lo2 hi2 2 A2 n2 (cSite l2)) :
    Calls Try.prog 37 #[.agg #[.int .i64 p0, .int .i64 s1.f0, .int .i64 s1.f1, .slice A2 n2 c2]] w (MakesOutcome p0 s1 n2 l2 w) := by
  have R2 := Lib.hid r2
  clear r2
  have HB := Lib.hid (Below.refl w.heap.size w)
  go_enter Try.func37, Try.ntmps37
  go_wp2_with fail
  refine Calls.mono (to_site_one s1 _) ?_
  rintro e w1 ⟨rfl, hb⟩
  obtain ⟨hc1, hf1⟩ := bcell hb
  have hs1 := hb.size
  (try simp at hs1)
  replace HB := Lib.hid (show Below w.heap.size w w1 from Below.trans (by repeat (first | with_reducible exact Below.refl _ _ | (with_reducible exact HB.out) | (with_reducible refine Below.setCell ?_ (by first | omega | (simp; done) | (simp <;> omega)) _) | (with_reducible refine Below.alloc ?_ (by first | omega | (simp; done) | (simp <;> omega)) _) | (refine Below.alloc ?_ (by first | omega | (simp; done) | (simp <;> omega)) _) | (refine Below.setCell ?_ (by first | omega | (simp; done) | (simp <;> omega)) _))) (hb.mono (by first | omega | (simp; done) | (simp <;> omega))))
  have z1_0 : w.heap.size < w1.heap.size := by omega
  have z1_1 : w.heap.size + 1 < w1.heap.size := by omega
  have z1_2 : w.heap.size + 1 + 1 < w1.heap.size := by omega
  clear hb
  go_wp2_with fail
  refine Calls.mono (to_site l2 A2 n2 c2 lo2 hi2 _ (by omega) (R2.out.new (by repeat (first | with_reducible exact Below.refl _ _ | (with_reducible exact HB.out) | (with_reducible refine Below.setCell ?_ (by first | omega | (simp; done) | (simp <;> omega)) _) | (with_reducible refine Below.alloc ?_ (by first | omega | (simp; done) | (simp <;> omega)) _) | (refine Below.alloc ?_ (by first | omega | (simp; done) | (simp <;> omega)) _) | (refine Below.setCell ?_ (by first | omega | (simp; done) | (simp <;> omega)) _))))) ?_
  rintro e w2 ⟨B2, d2, rfl, F2, hb⟩
  obtain ⟨hc2, hf2⟩ := bcell hb
  have hs2 := hb.size
  (try simp at hs2)
  replace HB := Lib.hid (show Below w.heap.size w w2 from Below.trans (by repeat (first | with_reducible exact Below.refl _ _ | (with_reducible exact HB.out) | (with_reducible refine Below.setCell ?_ (by first | omega | (simp; done) | (simp <;> omega)) _) | (with_reducible refine Below.alloc ?_ (by first | omega | (simp; done) | (simp <;> omega)) _) | (refine Below.alloc ?_ (by first | omega | (simp; done) | (simp <;> omega)) _) | (refine Below.setCell ?_ (by first | omega | (simp; done) | (simp <;> omega)) _))) (hb.mono (by first | omega | (simp; done) | (simp <;> omega))))
  have z2_0 : w.heap.size < w2.heap.size := by omega
  have z2_1 : w.heap.size + 1 < w2.heap.size := by omega
  have z2_2 : w.heap.size + 1 + 1 < w2.heap.size := by omega
  clear hb
  replace F2 := Lib.hid (F2.mono (lo' := w1.heap.size) (by simp) (Nat.le_refl _))
  go_wp2_with fail
  exact bodyPost_ret (v := .agg #[.int .i64 p0, .int .i64 s1.f0, .int .i64 s1.f1, .slice B2 n2 d2]) (by simp [results, Try.results37, go_sem, hc1, z1_0, z1_1, z1_2, hc2, z2_0, z2_1, z2_2]) rfl
    ⟨B2, d2, w1.heap.size, w2.heap.size, rfl, (by repeat (first | with_reducible exact F2.out | (with_reducible refine Fr.put ?_ (by first | omega | (simp; done) | (simp <;> omega)) _) | (with_reducible refine Fr.alloc ?_ _))),
      Lib.hid (by unfold SepOutcome; simp; omega), by repeat (first | with_reducible exact Below.refl _ _ | (with_reducible exact HB.out) | (with_reducible refine Below.setCell ?_ (by first | omega | (simp; done) | (simp <;> omega)) _) | (with_reducible refine Below.alloc ?_ (by first | omega | (simp; done) | (simp <;> omega)) _) | (refine Below.alloc ?_ (by first | omega | (simp; done) | (simp <;> omega)) _) | (refine Below.setCell ?_ (by first | omega | (simp; done) | (simp <;> omega)) _))⟩

theorem sz_outcome (p0 : Int) (s1 : TSite) (A2 : Option Addr) (n2 c2 : Nat) (left : Int) (w : World) (hm2 : n2 ≤ 9223372036854775807) (h : (n2 : Int) ≤ left) (hl : left ≤ 1048576) :
    Calls Try.prog 35 #[.agg #[.int .i64 p0, .int .i64 s1.f0, .int .i64 s1.f1, .slice A2 n2 c2], .int .i64 left] w (Says (.int .i64 (left - (n2 : Int))) w) := by
  have HB := Lib.hid (Below.refl w.heap.size w)
  have g0 : decide (left - (n2 : Int) < 0) = false := by simp; omega
  go_enter Try.func35, Try.ntmps35
  go_wp2_with fail
  refine Calls.mono (sz_site A2 n2 c2 (left) _ hm2 (by omega) (by omega)) ?_
  rintro e w1 hq
  obtain ⟨rfl, hb⟩ := hq.says
  obtain ⟨hc1, hf1⟩ := bcell hb
  have hs1 := hb.size
  (try simp at hs1)
  replace HB := Lib.hid (show Below w.heap.size w w1 from Below.trans (by repeat (first | with_reducible exact Below.refl _ _ | (with_reducible exact HB.out) | (with_reducible refine Below.setCell ?_ (by first | omega | (simp; done) | (simp <;> omega)) _) | (with_reducible refine Below.alloc ?_ (by first | omega | (simp; done) | (simp <;> omega)) _) | (refine Below.alloc ?_ (by first | omega | (simp; done) | (simp <;> omega)) _) | (refine Below.setCell ?_ (by first | omega | (simp; done) | (simp <;> omega)) _))) (hb.mono (by first | omega | (simp; done) | (simp <;> omega))))
  have z1_0 : w.heap.size < w1.heap.size := by omega
  clear hb
  go_wp2_with fail
  go_ret
  exact ⟨rfl, by repeat (first | with_reducible exact Below.refl _ _ | (with_reducible exact HB.out) | (with_reducible refine Below.setCell ?_ (by first | omega | (simp; done) | (simp <;> omega)) _) | (with_reducible refine Below.alloc ?_ (by first | omega | (simp; done) | (simp <;> omega)) _) | (refine Below.alloc ?_ (by first | omega | (simp; done) | (simp <;> omega)) _) | (refine Below.setCell ?_ (by first | omega | (simp; done) | (simp <;> omega)) _))⟩

theorem szno_outcome (p0 : Int) (s1 : TSite) (A2 : Option Addr) (n2 c2 : Nat) (left : Int) (w : World) (hm2 : n2 ≤ 9223372036854775807) (h : ¬ (n2 : Int) ≤ left) (hl : left ≤ 1048576) (hl0 : 0 ≤ left) :
    Calls Try.prog 35 #[.agg #[.int .i64 p0, .int .i64 s1.f0, .int .i64 s1.f1, .slice A2 n2 c2], .int .i64 left] w (Says (.int .i64 (-1)) w) := by
  have HB := Lib.hid (Below.refl w.heap.size w)
  go_enter Try.func35, Try.ntmps35
  go_wp2_with fail
  refine Calls.mono (szno_site A2 n2 c2 (left) _ hm2 (by omega) (by omega) (by omega)) ?_
  rintro e w1 hq
  obtain ⟨rfl, hb⟩ := hq.says
  obtain ⟨hc1, hf1⟩ := bcell hb
  have hs1 := hb.size
  (try simp at hs1)
  replace HB := Lib.hid (show Below w.heap.size w w1 from Below.trans (by repeat (first | with_reducible exact Below.refl _ _ | (with_reducible exact HB.out) | (with_reducible refine Below.setCell ?_ (by first | omega | (simp; done) | (simp <;> omega)) _) | (with_reducible refine Below.alloc ?_ (by first | omega | (simp; done) | (simp <;> omega)) _) | (refine Below.alloc ?_ (by first | omega | (simp; done) | (simp <;> omega)) _) | (refine Below.setCell ?_ (by first | omega | (simp; done) | (simp <;> omega)) _))) (hb.mono (by first | omega | (simp; done) | (simp <;> omega))))
  have z1_0 : w.heap.size < w1.heap.size := by omega
  clear hb
  go_wp2_with fail
  go_ret
  exact ⟨rfl, by repeat (first | with_reducible exact Below.refl _ _ | (with_reducible exact HB.out) | (with_reducible refine Below.setCell ?_ (by first | omega | (simp; done) | (simp <;> omega)) _) | (with_reducible refine Below.alloc ?_ (by first | omega | (simp; done) | (simp <;> omega)) _) | (refine Below.alloc ?_ (by first | omega | (simp; done) | (simp <;> omega)) _) | (refine Below.setCell ?_ (by first | omega | (simp; done) | (simp <;> omega)) _))⟩

theorem eq_outcome_same (p0 : Int) (s1 : TSite) (l2 : List TSite) (n2 : Nat) (A2 A2' : Option Addr) (c2 c2' lo2 hi2 lo2' hi2' : Nat) (w : World) (hn2 : n2 ≤ 17179869184) (r2 : Rd w lo2 hi2 2 A2 n2 (cSite l2)) (r2' : Rd w lo2' hi2' 2 A2' n2 (cSite l2)) :
    Calls Try.prog 39 #[.agg #[.int .i64 p0, .int .i64 s1.f0, .int .i64 s1.f1, .slice A2 n2 c2], .agg #[.int .i64 p0, .int .i64 s1.f0, .int .i64 s1.f1, .slice A2' n2 c2']] w (Says (.bool true) w) := by
  have R2 := Lib.hid r2
  have R2' := Lib.hid r2'
  clear r2 r2'
  have HB := Lib.hid (Below.refl w.heap.size w)
  go_enter Try.func39, Try.ntmps39
  go_wp2_with fail
  refine Calls.mono (eq_site_one s1 _) ?_
  rintro e w1 ⟨rfl, hb⟩
  obtain ⟨hc1, hf1⟩ := bcell hb
  have hs1 := hb.size
  (try simp at hs1)
  replace HB := Lib.hid (show Below w.heap.size w w1 from Below.trans (by repeat (first | with_reducible exact Below.refl _ _ | (with_reducible exact HB.out) | (with_reducible refine Below.setCell ?_ (by first | omega | (simp; done) | (simp <;> omega)) _) | (with_reducible refine Below.alloc ?_ (by first | omega | (simp; done) | (simp <;> omega)) _) | (refine Below.alloc ?_ (by first | omega | (simp; done) | (simp <;> omega)) _) | (refine Below.setCell ?_ (by first | omega | (simp; done) | (simp <;> omega)) _))) (hb.mono (by first | omega | (simp; done) | (simp <;> omega))))
  have z1_0 : w.heap.size < w1.heap.size := by omega
  have z1_1 : w.heap.size + 1 < w1.heap.size := by omega
  clear hb
  go_wp2_with fail
  refine Calls.mono (eq_site_same l2 A2 A2' n2 n2 c2 c2' lo2 hi2 lo2' hi2' _ (by omega) (by omega) (R2.out.new (by repeat (first | with_reducible exact Below.refl _ _ | (with_reducible exact HB.out) | (with_reducible refine Below.setCell ?_ (by first | omega | (simp; done) | (simp <;> omega)) _) | (with_reducible refine Below.alloc ?_ (by first | omega | (simp; done) | (simp <;> omega)) _) | (refine Below.alloc ?_ (by first | omega | (simp; done) | (simp <;> omega)) _) | (refine Below.setCell ?_ (by first | omega | (simp; done) | (simp <;> omega)) _)))) (R2'.out.new (by repeat (first | with_reducible exact Below.refl _ _ | (with_reducible exact HB.out) | (with_reducible refine Below.setCell ?_ (by first | omega | (simp; done) | (simp <;> omega)) _) | (with_reducible refine Below.alloc ?_ (by first | omega | (simp; done) | (simp <;> omega)) _) | (refine Below.alloc ?_ (by first | omega | (simp; done) | (simp <;> omega)) _) | (refine Below.setCell ?_ (by first | omega | (simp; done) | (simp <;> omega)) _))))) ?_
  rintro e w2 ⟨rfl, hb⟩
  obtain ⟨hc2, hf2⟩ := bcell hb
  have hs2 := hb.size
  (try simp at hs2)
  replace HB := Lib.hid (show Below w.heap.size w w2 from Below.trans (by repeat (first | with_reducible exact Below.refl _ _ | (with_reducible exact HB.out) | (with_reducible refine Below.setCell ?_ (by first | omega | (simp; done) | (simp <;> omega)) _) | (with_reducible refine Below.alloc ?_ (by first | omega | (simp; done) | (simp <;> omega)) _) | (refine Below.alloc ?_ (by first | omega | (simp; done) | (simp <;> omega)) _) | (refine Below.setCell ?_ (by first | omega | (simp; done) | (simp <;> omega)) _))) (hb.mono (by first | omega | (simp; done) | (simp <;> omega))))
  have z2_0 : w.heap.size < w2.heap.size := by omega
  have z2_1 : w.heap.size + 1 < w2.heap.size := by omega
  clear hb
  go_wp2_with fail
  go_ret
  exact ⟨rfl, by repeat (first | with_reducible exact Below.refl _ _ | (with_reducible exact HB.out) | (with_reducible refine Below.setCell ?_ (by first | omega | (simp; done) | (simp <;> omega)) _) | (with_reducible refine Below.alloc ?_ (by first | omega | (simp; done) | (simp <;> omega)) _) | (refine Below.alloc ?_ (by first | omega | (simp; done) | (simp <;> omega)) _) | (refine Below.setCell ?_ (by first | omega | (simp; done) | (simp <;> omega)) _))⟩

def MarkedOutcome (A2 : Option Addr) (n2 c2 lo2 hi2 : Nat) (k0 lo hi : Nat) (w : World) (e : Ending) (w' : World) : Prop :=
  e = .returned (.int .i64 ((k0 + n2 * 2 : Nat) : Int)) ∧ Fr w' lo2 hi2 53 2 A2 n2 c2 (cSite (TSite.marks (k0) n2)) ∧ Chg lo hi w w'
end Go.Proofs.Ytmdmihilhilkiaa
