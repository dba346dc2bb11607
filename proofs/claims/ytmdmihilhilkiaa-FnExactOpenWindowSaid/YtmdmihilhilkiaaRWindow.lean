/- The laws' own helpers on Window: read, copied, compared, sized, marked, and the marks looked for. -/
import Derived.Test.YtmdmihilhilkiaaRich
import Derived.Test.YtmdmihilhilkiaaTStored
import Derived.StillTailTactics
import Derived.Deep.RegionHeld3
import Derived.Deep.DeepCutAuto
namespace Go.Proofs.Ytmdmihilhilkiaa
open Go Go.ChangeShapes Go.WideShapes Go.ChangeAt Go.RowKit Go.Lib
set_option linter.unusedVariables false
set_option linter.unusedSimpArgs false
set_option maxRecDepth 100000
set_option maxHeartbeats 4000000

/-- Where the slices lie: each in blocks of its own, all from lo on and below hi. -/
def SepWindow (lo hi lo1 hi1 lo2 hi2 : Nat) : Prop := lo ≤ lo1 ∧ lo1 ≤ hi1 ∧ hi1 ≤ hi ∧ lo ≤ lo2 ∧ lo2 ≤ hi2 ∧ hi2 ≤ hi ∧ (hi1 ≤ lo2 ∨ hi2 ≤ lo1)
/-- A call that answers a new Window of these parts and leaves what was there. -/
def MakesWindow (p0 : Bool) (n1 : Nat) (l1 : List TStored) (n2 : Nat) (l2 : List TStored) (w : World) (e : Ending) (w' : World) : Prop :=
  ∃ (A1 A2 : Option Addr) (c1 lo1 hi1 c2 lo2 hi2 : Nat), e = .returned (.agg #[.bool p0, .slice A1 n1 c1, .slice A2 n2 c2]) ∧ Fr w' lo1 hi1 84 4 A1 n1 c1 (cStored l1) ∧ Fr w' lo2 hi2 84 4 A2 n2 c2 (cStored l2) ∧ Hid (SepWindow w.heap.size w'.heap.size lo1 hi1 lo2 hi2) ∧ Below w.heap.size w w'
section
variable {H : Type} {enc : TypeId × Value → H}
theorem open_window {W : World} {base : Nat} {v : Value} {d : DataW H} {p : List MemPlace} (hv : Value.okWide Try.prog W .any base 26 v)
    (h : DataW.Trod enc Try.prog W 0 (fun _ => true) true 26 v d p) (hlt : ∀ x ∈ p, x.block < W.heap.size) :
    ∃ (p0 : Bool) (A1 : Option Addr) (n1 c1 : Nat) (l1 : List TStored) (A2 : Option Addr) (n2 c2 : Nat) (l2 : List TStored), v = .agg #[.bool p0, .slice A1 n1 c1, .slice A2 n2 c2] ∧ True ∧ n1 ≤ maxLen ∧ Rd W 0 W.heap.size 4 A1 n1 (cStored l1) ∧ Hid (cStoredOk l1) ∧ n2 ≤ maxLen ∧ Rd W 0 W.heap.size 4 A2 n2 (cStored l2) ∧ Hid (cStoredOk l2) := by
  obtain ⟨cs, rfl, hsz⟩ := okWide_struct Try.underlying26 hv
  obtain ⟨fuel, hq⟩ := h
  obtain ⟨ys, n, _, hx, hlen, hyl, hf⟩ := DataW.trod_struct Try.underlying26 hq
  have hx2 := congrArg Prod.snd hx
  simp only at hx2
  subst hx2
  have hlen : cs.size = 3 := hsz.trans (by kernel_rfl)
  have hyl : ys.length = 3 := hyl
  have hlt' : ∀ (i : Nat) (y : DataW H × List MemPlace), ys[i]? = some y → ∀ x ∈ y.2, x.block < W.heap.size := fun i y hy x hx => hlt x (List.mem_flatMap.2 ⟨y, List.mem_of_getElem? hy, hx⟩)
  obtain ⟨cl⟩ := cs
  match cl, hlen with
  | [z0, z1, z2], _ =>
    have h0 := hf 0 _ rfl
    have h0' : DataW.trod enc Try.prog W 0 (fun _ => true) true n 4 [z0] = some (ys[0]'(by omega)) := by
      refine Eq.trans ?_ (h0.trans (List.getElem?_eq_getElem (by omega)))
      rfl
    obtain ⟨x0, e0, _⟩ := DataW.trod_bool Try.underlying4 h0'
    have h1 := hf 1 _ rfl
    have h1' : DataW.trod enc Try.prog W 0 (fun _ => true) true n 24 [z1] = some (ys[1]'(by omega)) := by
      refine Eq.trans ?_ (h1.trans (List.getElem?_eq_getElem (by omega)))
      rfl
    obtain ⟨A1, n1, c1, l1, e1, m1, r1, k1⟩ := rows_trod (c := TStored.cells) (fit := TStored.fit) (d := (ys[1]'(by omega)).1) (p := (ys[1]'(by omega)).2) Try.underlying24 (by kernel_rfl) TStored.len (by decide) (fun h => read_stored h) h1' (hlt' 1 _ (List.getElem?_eq_getElem (by omega)))
    have h2 := hf 2 _ rfl
    have h2' : DataW.trod enc Try.prog W 0 (fun _ => true) true n 24 [z2] = some (ys[2]'(by omega)) := by
      refine Eq.trans ?_ (h2.trans (List.getElem?_eq_getElem (by omega)))
      rfl
    obtain ⟨A2, n2, c2, l2, e2, m2, r2, k2⟩ := rows_trod (c := TStored.cells) (fit := TStored.fit) (d := (ys[2]'(by omega)).1) (p := (ys[2]'(by omega)).2) Try.underlying24 (by kernel_rfl) TStored.len (by decide) (fun h => read_stored h) h2' (hlt' 2 _ (List.getElem?_eq_getElem (by omega)))
    refine ⟨x0, A1, n1, c1, l1, A2, n2, c2, l2, ?_, trivial, m1, r1, k1, m2, r2, k2⟩
    simp only [List.cons.injEq, and_true] at e0 e1 e2
    simp_all
end
theorem to_window (p0 : Bool) (l1 : List TStored) (A1 : Option Addr) (n1 c1 lo1 hi1 : Nat) (l2 : List TStored) (A2 : Option Addr) (n2 c2 lo2 hi2 : Nat) (w : World) (hn1 : n1 ≤ 17179869184) (r1 : Rd w lo1 hi1 4 A1 n1 (cStored l1)) (hn2 : n2 ≤ 17179869184) (r2 : Rd w lo2 hi2 4 A2 n2 (cStored l2)) :
    Calls Try.prog 19 #[.agg #[.bool p0, .slice A1 n1 c1, .slice A2 n2 c2]] w (MakesWindow p0 n1 l1 n2 l2 w) := by
  have R1 := Lib.hid r1
  have R2 := Lib.hid r2
  clear r1 r2
  have HB := Lib.hid (Below.refl w.heap.size w)
  go_enter Try.func19, Try.ntmps19
  go_wp2_with fail
  refine Calls.mono (to_stored l1 A1 n1 c1 lo1 hi1 _ (by omega) (R1.out.new (by repeat (first | with_reducible exact Below.refl _ _ | (with_reducible exact HB.out) | (with_reducible refine Below.setCell ?_ (by first | omega | (simp; done) | (simp <;> omega)) _) | (with_reducible refine Below.alloc ?_ (by first | omega | (simp; done) | (simp <;> omega)) _) | (refine Below.alloc ?_ (by first | omega | (simp; done) | (simp <;> omega)) _) | (refine Below.setCell ?_ (by first | omega | (simp; done) | (simp <;> omega)) _))))) ?_
  rintro e w1 ⟨B1, d1, rfl, F1, hb⟩
  obtain ⟨hc1, hf1⟩ := bcell hb
  have hs1 := hb.size
  (try simp at hs1)
  replace HB := Lib.hid (show Below w.heap.size w w1 from Below.trans (by repeat (first | with_reducible exact Below.refl _ _ | (with_reducible exact HB.out) | (with_reducible refine Below.setCell ?_ (by first | omega | (simp; done) | (simp <;> omega)) _) | (with_reducible refine Below.alloc ?_ (by first | omega | (simp; done) | (simp <;> omega)) _) | (refine Below.alloc ?_ (by first | omega | (simp; done) | (simp <;> omega)) _) | (refine Below.setCell ?_ (by first | omega | (simp; done) | (simp <;> omega)) _))) (hb.mono (by first | omega | (simp; done) | (simp <;> omega))))
  have z1_0 : w.heap.size < w1.heap.size := by omega
  have z1_1 : w.heap.size + 1 < w1.heap.size := by omega
  have z1_2 : w.heap.size + 1 + 1 < w1.heap.size := by omega
  clear hb
  replace F1 := Lib.hid (F1.mono (lo' := w.heap.size + 3) (by simp) (Nat.le_refl _))
  go_wp2_with fail
  refine Calls.mono (to_stored l2 A2 n2 c2 lo2 hi2 _ (by omega) (R2.out.new (by repeat (first | with_reducible exact Below.refl _ _ | (with_reducible exact HB.out) | (with_reducible refine Below.setCell ?_ (by first | omega | (simp; done) | (simp <;> omega)) _) | (with_reducible refine Below.alloc ?_ (by first | omega | (simp; done) | (simp <;> omega)) _) | (refine Below.alloc ?_ (by first | omega | (simp; done) | (simp <;> omega)) _) | (refine Below.setCell ?_ (by first | omega | (simp; done) | (simp <;> omega)) _))))) ?_
  rintro e w2 ⟨B2, d2, rfl, F2, hb⟩
  replace F1 := Lib.hid (show Fr w2 (w.heap.size + 3) (w1.heap.size) 84 4 B1 n1 d1 (cStored l1) from Fr.new (by repeat (first | with_reducible exact F1.out | (with_reducible refine Fr.put ?_ (by first | omega | (simp; done) | (simp <;> omega)) _) | (with_reducible refine Fr.alloc ?_ _))) hb)
  obtain ⟨hc2, hf2⟩ := bcell hb
  have hs2 := hb.size
  (try simp at hs2)
  replace HB := Lib.hid (show Below w.heap.size w w2 from Below.trans (by repeat (first | with_reducible exact Below.refl _ _ | (with_reducible exact HB.out) | (with_reducible refine Below.setCell ?_ (by first | omega | (simp; done) | (simp <;> omega)) _) | (with_reducible refine Below.alloc ?_ (by first | omega | (simp; done) | (simp <;> omega)) _) | (refine Below.alloc ?_ (by first | omega | (simp; done) | (simp <;> omega)) _) | (refine Below.setCell ?_ (by first | omega | (simp; done) | (simp <;> omega)) _))) (hb.mono (by first | omega | (simp; done) | (simp <;> omega))))
  have z2_0 : w.heap.size < w2.heap.size := by omega
  have z2_1 : w.heap.size + 1 < w2.heap.size := by omega
  have z2_2 : w.heap.size + 1 + 1 < w2.heap.size := by omega
  clear hb
  replace F2 := Lib.hid (F2.mono (lo' := w1.heap.size) (by simp) (Nat.le_refl _))
  go_wp2_with fail
  exact bodyPost_ret (v := .agg #[.bool p0, .slice B1 n1 d1, .slice B2 n2 d2]) (by simp [results, Try.results19, go_sem, hc1, z1_0, z1_1, z1_2, hc2, z2_0, z2_1, z2_2]) rfl
    ⟨B1, B2, d1, w.heap.size + 3, w1.heap.size, d2, w1.heap.size, w2.heap.size, rfl, (by repeat (first | with_reducible exact F1.out | (with_reducible refine Fr.put ?_ (by first | omega | (simp; done) | (simp <;> omega)) _) | (with_reducible refine Fr.alloc ?_ _))), (by repeat (first | with_reducible exact F2.out | (with_reducible refine Fr.put ?_ (by first | omega | (simp; done) | (simp <;> omega)) _) | (with_reducible refine Fr.alloc ?_ _))),
      Lib.hid (by unfold SepWindow; simp; omega), by repeat (first | with_reducible exact Below.refl _ _ | (with_reducible exact HB.out) | (with_reducible refine Below.setCell ?_ (by first | omega | (simp; done) | (simp <;> omega)) _) | (with_reducible refine Below.alloc ?_ (by first | omega | (simp; done) | (simp <;> omega)) _) | (refine Below.alloc ?_ (by first | omega | (simp; done) | (simp <;> omega)) _) | (refine Below.setCell ?_ (by first | omega | (simp; done) | (simp <;> omega)) _))⟩

theorem sz_window (p0 : Bool) (A1 : Option Addr) (n1 c1 : Nat) (A2 : Option Addr) (n2 c2 : Nat) (left : Int) (w : World) (hm1 : n1 ≤ 9223372036854775807) (hm2 : n2 ≤ 9223372036854775807) (h : (n1 : Int) + (n2 : Int) ≤ left) (hl : left ≤ 1048576) :
    Calls Try.prog 17 #[.agg #[.bool p0, .slice A1 n1 c1, .slice A2 n2 c2], .int .i64 left] w (Says (.int .i64 (left - (n1 : Int) - (n2 : Int))) w) := by
  have HB := Lib.hid (Below.refl w.heap.size w)
  have g0 : decide (left - (n1 : Int) < 0) = false := by simp; omega
  have g1 : decide (left - (n1 : Int) - (n2 : Int) < 0) = false := by simp; omega
  go_enter Try.func17, Try.ntmps17
  go_wp2_with fail
  refine Calls.mono (sz_stored A1 n1 c1 (left) _ hm1 (by omega) (by omega)) ?_
  rintro e w1 hq
  obtain ⟨rfl, hb⟩ := hq.says
  obtain ⟨hc1, hf1⟩ := bcell hb
  have hs1 := hb.size
  (try simp at hs1)
  replace HB := Lib.hid (show Below w.heap.size w w1 from Below.trans (by repeat (first | with_reducible exact Below.refl _ _ | (with_reducible exact HB.out) | (with_reducible refine Below.setCell ?_ (by first | omega | (simp; done) | (simp <;> omega)) _) | (with_reducible refine Below.alloc ?_ (by first | omega | (simp; done) | (simp <;> omega)) _) | (refine Below.alloc ?_ (by first | omega | (simp; done) | (simp <;> omega)) _) | (refine Below.setCell ?_ (by first | omega | (simp; done) | (simp <;> omega)) _))) (hb.mono (by first | omega | (simp; done) | (simp <;> omega))))
  have z1_0 : w.heap.size < w1.heap.size := by omega
  clear hb
  go_wp2_with fail
  refine Calls.mono (sz_stored A2 n2 c2 (left - (n1 : Int)) _ hm2 (by omega) (by omega)) ?_
  rintro e w2 hq
  obtain ⟨rfl, hb⟩ := hq.says
  obtain ⟨hc2, hf2⟩ := bcell hb
  have hs2 := hb.size
  (try simp at hs2)
  replace HB := Lib.hid (show Below w.heap.size w w2 from Below.trans (by repeat (first | with_reducible exact Below.refl _ _ | (with_reducible exact HB.out) | (with_reducible refine Below.setCell ?_ (by first | omega | (simp; done) | (simp <;> omega)) _) | (with_reducible refine Below.alloc ?_ (by first | omega | (simp; done) | (simp <;> omega)) _) | (refine Below.alloc ?_ (by first | omega | (simp; done) | (simp <;> omega)) _) | (refine Below.setCell ?_ (by first | omega | (simp; done) | (simp <;> omega)) _))) (hb.mono (by first | omega | (simp; done) | (simp <;> omega))))
  have z2_0 : w.heap.size < w2.heap.size := by omega
  clear hb
  go_wp2_with fail
  go_ret
  exact ⟨rfl, by repeat (first | with_reducible exact Below.refl _ _ | (with_reducible exact HB.out) | (with_reducible refine Below.setCell ?_ (by first | omega | (simp; done) | (simp <;> omega)) _) | (with_reducible refine Below.alloc ?_ (by first | omega | (simp; done) | (simp <;> omega)) _) | (refine Below.alloc ?_ (by first | omega | (simp; done) | (simp <;> omega)) _) | (refine Below.setCell ?_ (by first | omega | (simp; done) | (simp <;> omega)) _))⟩

theorem szno_window (p0 : Bool) (A1 : Option Addr) (n1 c1 : Nat) (A2 : Option Addr) (n2 c2 : Nat) (left : Int) (w : World) (hm1 : n1 ≤ 9223372036854775807) (hm2 : n2 ≤ 9223372036854775807) (h : ¬ (n1 : Int) + (n2 : Int) ≤ left) (hl : left ≤ 1048576) (hl0 : 0 ≤ left) :
    Calls Try.prog 17 #[.agg #[.bool p0, .slice A1 n1 c1, .slice A2 n2 c2], .int .i64 left] w (Says (.int .i64 (-1)) w) := by
  have HB := Lib.hid (Below.refl w.heap.size w)
  by_cases u0 : left < (n1 : Int)
  · skip
    go_enter Try.func17, Try.ntmps17
    go_wp2_with fail
    refine Calls.mono (szno_stored A1 n1 c1 (left) _ hm1 (by omega) (by omega) (by omega)) ?_
    rintro e w1 hq
    obtain ⟨rfl, hb⟩ := hq.says
    obtain ⟨hc1, hf1⟩ := bcell hb
    have hs1 := hb.size
    (try simp at hs1)
    replace HB := Lib.hid (show Below w.heap.size w w1 from Below.trans (by repeat (first | with_reducible exact Below.refl _ _ | (with_reducible exact HB.out) | (with_reducible refine Below.setCell ?_ (by first | omega | (simp; done) | (simp <;> omega)) _) | (with_reducible refine Below.alloc ?_ (by first | omega | (simp; done) | (simp <;> omega)) _) | (refine Below.alloc ?_ (by first | omega | (simp; done) | (simp <;> omega)) _) | (refine Below.setCell ?_ (by first | omega | (simp; done) | (simp <;> omega)) _))) (hb.mono (by first | omega | (simp; done) | (simp <;> omega))))
    have z1_0 : w.heap.size < w1.heap.size := by omega
    clear hb
    go_wp2_with fail
    go_ret
    exact ⟨rfl, by repeat (first | with_reducible exact Below.refl _ _ | (with_reducible exact HB.out) | (with_reducible refine Below.setCell ?_ (by first | omega | (simp; done) | (simp <;> omega)) _) | (with_reducible refine Below.alloc ?_ (by first | omega | (simp; done) | (simp <;> omega)) _) | (refine Below.alloc ?_ (by first | omega | (simp; done) | (simp <;> omega)) _) | (refine Below.setCell ?_ (by first | omega | (simp; done) | (simp <;> omega)) _))⟩
  have g0 : decide (left - (n1 : Int) < 0) = false := by simp; omega
  go_enter Try.func17, Try.ntmps17
  go_wp2_with fail
  refine Calls.mono (sz_stored A1 n1 c1 (left) _ hm1 (by omega) (by omega)) ?_
  rintro e w1 hq
  obtain ⟨rfl, hb⟩ := hq.says
  obtain ⟨hc1, hf1⟩ := bcell hb
  have hs1 := hb.size
  (try simp at hs1)
  replace HB := Lib.hid (show Below w.heap.size w w1 from Below.trans (by repeat (first | with_reducible exact Below.refl _ _ | (with_reducible exact HB.out) | (with_reducible refine Below.setCell ?_ (by first | omega | (simp; done) | (simp <;> omega)) _) | (with_reducible refine Below.alloc ?_ (by first | omega | (simp; done) | (simp <;> omega)) _) | (refine Below.alloc ?_ (by first | omega | (simp; done) | (simp <;> omega)) _) | (refine Below.setCell ?_ (by first | omega | (simp; done) | (simp <;> omega)) _))) (hb.mono (by first | omega | (simp; done) | (simp <;> omega))))
  have z1_0 : w.heap.size < w1.heap.size := by omega
  clear hb
  go_wp2_with fail
  refine Calls.mono (szno_stored A2 n2 c2 (left - (n1 : Int)) _ hm2 (by omega) (by omega) (by omega)) ?_
  rintro e w2 hq
  obtain ⟨rfl, hb⟩ := hq.says
  obtain ⟨hc2, hf2⟩ := bcell hb
  have hs2 := hb.size
  (try simp at hs2)
  replace HB := Lib.hid (show Below w.heap.size w w2 from Below.trans (by repeat (first | with_reducible exact Below.refl _ _ | (with_reducible exact HB.out) | (with_reducible refine Below.setCell ?_ (by first | omega | (simp; done) | (simp <;> omega)) _) | (with_reducible refine Below.alloc ?_ (by first | omega | (simp; done) | (simp <;> omega)) _) | (refine Below.alloc ?_ (by first | omega | (simp; done) | (simp <;> omega)) _) | (refine Below.setCell ?_ (by first | omega | (simp; done) | (simp <;> omega)) _))) (hb.mono (by first | omega | (simp; done) | (simp <;> omega))))
  have z2_0 : w.heap.size < w2.heap.size := by omega
  clear hb
  go_wp2_with fail
  go_ret
  exact ⟨rfl, by repeat (first | with_reducible exact Below.refl _ _ | (with_reducible exact HB.out) | (with_reducible refine Below.setCell ?_ (by first | omega | (simp; done) | (simp <;> omega)) _) | (with_reducible refine Below.alloc ?_ (by first | omega | (simp; done) | (simp <;> omega)) _) | (refine Below.alloc ?_ (by first | omega | (simp; done) | (simp <;> omega)) _) | (refine Below.setCell ?_ (by first | omega | (simp; done) | (simp <;> omega)) _))⟩

theorem eq_window_same (p0 : Bool) (l1 : List TStored) (n1 : Nat) (A1 A1' : Option Addr) (c1 c1' lo1 hi1 lo1' hi1' : Nat) (l2 : List TStored) (n2 : Nat) (A2 A2' : Option Addr) (c2 c2' lo2 hi2 lo2' hi2' : Nat) (w : World) (hn1 : n1 ≤ 17179869184) (hn2 : n2 ≤ 17179869184) (r1 : Rd w lo1 hi1 4 A1 n1 (cStored l1)) (r2 : Rd w lo2 hi2 4 A2 n2 (cStored l2)) (r1' : Rd w lo1' hi1' 4 A1' n1 (cStored l1)) (r2' : Rd w lo2' hi2' 4 A2' n2 (cStored l2)) :
    Calls Try.prog 22 #[.agg #[.bool p0, .slice A1 n1 c1, .slice A2 n2 c2], .agg #[.bool p0, .slice A1' n1 c1', .slice A2' n2 c2']] w (Says (.bool true) w) := by
  have R1 := Lib.hid r1
  have R1' := Lib.hid r1'
  clear r1 r1'
  have R2 := Lib.hid r2
  have R2' := Lib.hid r2'
  clear r2 r2'
  have HB := Lib.hid (Below.refl w.heap.size w)
  go_enter Try.func22, Try.ntmps22
  go_wp2_with fail
  refine Calls.mono (eq_stored_same l1 A1 A1' n1 n1 c1 c1' lo1 hi1 lo1' hi1' _ (by omega) (by omega) (R1.out.new (by repeat (first | with_reducible exact Below.refl _ _ | (with_reducible exact HB.out) | (with_reducible refine Below.setCell ?_ (by first | omega | (simp; done) | (simp <;> omega)) _) | (with_reducible refine Below.alloc ?_ (by first | omega | (simp; done) | (simp <;> omega)) _) | (refine Below.alloc ?_ (by first | omega | (simp; done) | (simp <;> omega)) _) | (refine Below.setCell ?_ (by first | omega | (simp; done) | (simp <;> omega)) _)))) (R1'.out.new (by repeat (first | with_reducible exact Below.refl _ _ | (with_reducible exact HB.out) | (with_reducible refine Below.setCell ?_ (by first | omega | (simp; done) | (simp <;> omega)) _) | (with_reducible refine Below.alloc ?_ (by first | omega | (simp; done) | (simp <;> omega)) _) | (refine Below.alloc ?_ (by first | omega | (simp; done) | (simp <;> omega)) _) | (refine Below.setCell ?_ (by first | omega | (simp; done) | (simp <;> omega)) _))))) ?_
  rintro e w1 ⟨rfl, hb⟩
  obtain ⟨hc1, hf1⟩ := bcell hb
  have hs1 := hb.size
  (try simp at hs1)
  replace HB := Lib.hid (show Below w.heap.size w w1 from Below.trans (by repeat (first | with_reducible exact Below.refl _ _ | (with_reducible exact HB.out) | (with_reducible refine Below.setCell ?_ (by first | omega | (simp; done) | (simp <;> omega)) _) | (with_reducible refine Below.alloc ?_ (by first | omega | (simp; done) | (simp <;> omega)) _) | (refine Below.alloc ?_ (by first | omega | (simp; done) | (simp <;> omega)) _) | (refine Below.setCell ?_ (by first | omega | (simp; done) | (simp <;> omega)) _))) (hb.mono (by first | omega | (simp; done) | (simp <;> omega))))
  have z1_0 : w.heap.size < w1.heap.size := by omega
  have z1_1 : w.heap.size + 1 < w1.heap.size := by omega
  clear hb
  go_wp2_with fail
  refine Calls.mono (eq_stored_same l2 A2 A2' n2 n2 c2 c2' lo2 hi2 lo2' hi2' _ (by omega) (by omega) (R2.out.new (by repeat (first | with_reducible exact Below.refl _ _ | (with_reducible exact HB.out) | (with_reducible refine Below.setCell ?_ (by first | omega | (simp; done) | (simp <;> omega)) _) | (with_reducible refine Below.alloc ?_ (by first | omega | (simp; done) | (simp <;> omega)) _) | (refine Below.alloc ?_ (by first | omega | (simp; done) | (simp <;> omega)) _) | (refine Below.setCell ?_ (by first | omega | (simp; done) | (simp <;> omega)) _)))) (R2'.out.new (by repeat (first | with_reducible exact Below.refl _ _ | (with_reducible exact HB.out) | (with_reducible refine Below.setCell ?_ (by first | omega | (simp; done) | (simp <;> omega)) _) | (with_reducible refine Below.alloc ?_ (by first | omega | (simp; done) | (simp <;> omega)) _) | (refine Below.alloc ?_ (by first | omega | (simp; done) | (simp <;> omega)) _) | (refine Below.setCell ?_ (by first | omega | (simp; done) | (simp <;> omega)) _))))) ?_
  rintro e w2 ⟨rfl, hb⟩
  obtain ⟨hc2, hf2⟩ := bcell hb
  have hs2 := hb.size
  (try simp at hs2)
  replace HB := Lib.hid (show Below w.heap.size w w2 from Below.trans (by repeat (first | with_reducible exact Below.refl _ _ | (with_reducible exact HB.out) | (with_reducible refine Below.setCell ?_ (by first | omega | (simp; done) | (simp <;> omega)) _) | (with_reducible refine Below.alloc ?_ (by first | omega | (simp; done) | (simp <;> omega)) _) | (refine Below.alloc ?_ (by first | omega | (simp; done) | (simp <;> omega)) _) | (refine Below.setCell ?_ (by first | omega | (simp; done) | (simp <;> omega)) _))) (hb.mono (by first | omega | (simp; done) | (simp <;> omega))))
  have z2_0 : w.heap.size < w2.heap.size := by omega
  have z2_1 : w.heap.size + 1 < w2.heap.size := by omega
  clear hb
  go_wp2_with fail
  go_ret
  exact ⟨rfl, by repeat (first | with_reducible exact Below.refl _ _ | (with_reducible exact HB.out) | (with_reducible refine Below.setCell ?_ (by first | omega | (simp; done) | (simp <;> omega)) _) | (with_reducible refine Below.alloc ?_ (by first | omega | (simp; done) | (simp <;> omega)) _) | (refine Below.alloc ?_ (by first | omega | (simp; done) | (simp <;> omega)) _) | (refine Below.setCell ?_ (by first | omega | (simp; done) | (simp <;> omega)) _))⟩

def MarkedWindow (A1 : Option Addr) (n1 c1 lo1 hi1 : Nat) (A2 : Option Addr) (n2 c2 lo2 hi2 : Nat) (k0 lo hi : Nat) (w : World) (e : Ending) (w' : World) : Prop :=
  e = .returned (.int .i64 ((k0 + n1 * 4 + n2 * 4 : Nat) : Int)) ∧ Fr w' lo1 hi1 84 4 A1 n1 c1 (cStored (TStored.marks (k0) n1)) ∧ Fr w' lo2 hi2 84 4 A2 n2 c2 (cStored (TStored.marks (k0 + n1 * 4) n2)) ∧ Chg lo hi w w'
theorem mark_window (p0 : Bool) (xs1 : List Value) (A1 : Option Addr) (n1 c1 lo1 hi1 : Nat) (xs2 : List Value) (A2 : Option Addr) (n2 c2 lo2 hi2 : Nat) (k0 lo hi : Nat) (w : World) (hn1 : n1 ≤ 1073741824) (hn2 : n2 ≤ 1073741824) (hk0 : k0 ≤ 17179869184) (hw : hi ≤ w.heap.size) (hs : Hid (SepWindow lo hi lo1 hi1 lo2 hi2)) (r1 : Fr w lo1 hi1 84 4 A1 n1 c1 xs1) (r2 : Fr w lo2 hi2 84 4 A2 n2 c2 xs2) :
    Calls Try.prog 23 #[.agg #[.bool p0, .slice A1 n1 c1, .slice A2 n2 c2], .int .i64 (k0 : Int)] w (MarkedWindow A1 n1 c1 lo1 hi1 A2 n2 c2 lo2 hi2 k0 lo hi w) := by
  have hs := hs.out
  unfold SepWindow at hs
  replace r1 := Lib.hid r1
  replace r2 := Lib.hid r2
  have HC := Lib.hid (Chg.refl lo hi w)
  have KB := Lib.hid (box_new w 31 #[.bool p0, .slice A1 n1 c1, .slice A2 n2 c2])
  have hs0 : w.heap.size ≤ w.heap.size := Nat.le_refl _
  go_enter Try.func23, Try.ntmps23
  go_wp2_with fail
  refine Calls.mono (mark_stored _ A1 n1 c1 lo1 hi1 (k0) _ (by omega) (by omega) (r1.out.alloc _)) ?_
  rintro e w1 ⟨rfl, M1, hc, hz⟩
  replace r2 := Lib.hid ((r2.out.alloc _).chg hc (by omega))
  replace M1 := Lib.hid M1
  replace KB := Lib.hid (KB.out.chg hc (by omega))
  replace HC := Lib.hid (Chg.trans (HC.out.alloc _) (hc.mono (by omega) (.inl (by omega))))
  clear hc hz
  have e0 := KB.out.at_ (j := 0) rfl
  have e1 := KB.out.at_ (j := 1) rfl
  have e2 := KB.out.at_ (j := 2) rfl
  go_wp2_with fail
  clear e0 e1 e2
  refine Calls.mono (mark_stored _ A2 n2 c2 lo2 hi2 (k0 + n1 * 4) _ (by omega) (by omega) r2.out) ?_
  rintro e w2 ⟨rfl, M2, hc, hz⟩
  replace M1 := Lib.hid (M1.out.chg hc (by omega))
  replace M2 := Lib.hid M2
  replace KB := Lib.hid (KB.out.chg hc (by omega))
  replace HC := Lib.hid (Chg.trans HC.out (hc.mono (by omega) (.inl (by omega))))
  clear hc hz
  have e0 := KB.out.at_ (j := 0) rfl
  have e1 := KB.out.at_ (j := 1) rfl
  have e2 := KB.out.at_ (j := 2) rfl
  go_wp2_with fail
  go_ret
  exact ⟨by first | rfl | (congr 2; omega), M1.out, M2.out, HC.out⟩

theorem held_window (p0 : Bool) (A1 : Option Addr) (n1 c1 lo1 hi1 : Nat) (A2 : Option Addr) (n2 c2 lo2 hi2 : Nat) (k0 : Nat) (w : World) (hn1 : n1 ≤ 1073741824) (hn2 : n2 ≤ 1073741824) (hk0 : k0 ≤ 17179869184) (r1 : Rd w lo1 hi1 4 A1 n1 (cStored (TStored.marks (k0) n1))) (r2 : Rd w lo2 hi2 4 A2 n2 (cStored (TStored.marks (k0 + n1 * 4) n2))) :
    Calls Try.prog 34 #[.agg #[.bool p0, .slice A1 n1 c1, .slice A2 n2 c2], .int .i64 (k0 : Int)] w (Says (.int .i64 ((k0 + n1 * 4 + n2 * 4 : Nat) : Int)) w) := by
  have R1 := Lib.hid r1
  clear r1
  have R2 := Lib.hid r2
  clear r2
  have g0 : decide (((k0 + n1 * 4 : Nat) : Int) < 0) = false := by simp; omega
  have g1 : decide (((k0 + n1 * 4 + n2 * 4 : Nat) : Int) < 0) = false := by simp; omega
  have HB := Lib.hid (Below.refl w.heap.size w)
  go_enter Try.func34, Try.ntmps34
  go_wp2_with fail
  refine Calls.mono (held_stored A1 n1 c1 lo1 hi1 (k0) _ (by omega) (by omega) (R1.out.new (by repeat (first | with_reducible exact Below.refl _ _ | (with_reducible exact HB.out) | (with_reducible refine Below.setCell ?_ (by first | omega | (simp; done) | (simp <;> omega)) _) | (with_reducible refine Below.alloc ?_ (by first | omega | (simp; done) | (simp <;> omega)) _) | (refine Below.alloc ?_ (by first | omega | (simp; done) | (simp <;> omega)) _) | (refine Below.setCell ?_ (by first | omega | (simp; done) | (simp <;> omega)) _))))) ?_
  rintro e w1 hq
  obtain ⟨rfl, hb⟩ := hq.says
  obtain ⟨hc1, hf1⟩ := bcell hb
  have hs1 := hb.size
  (try simp at hs1)
  replace HB := Lib.hid (show Below w.heap.size w w1 from Below.trans (by repeat (first | with_reducible exact Below.refl _ _ | (with_reducible exact HB.out) | (with_reducible refine Below.setCell ?_ (by first | omega | (simp; done) | (simp <;> omega)) _) | (with_reducible refine Below.alloc ?_ (by first | omega | (simp; done) | (simp <;> omega)) _) | (refine Below.alloc ?_ (by first | omega | (simp; done) | (simp <;> omega)) _) | (refine Below.setCell ?_ (by first | omega | (simp; done) | (simp <;> omega)) _))) (hb.mono (by first | omega | (simp; done) | (simp <;> omega))))
  have z1_0 : w.heap.size < w1.heap.size := by omega
  clear hb
  go_wp2_with fail
  refine Calls.mono (held_stored A2 n2 c2 lo2 hi2 (k0 + n1 * 4) _ (by omega) (by omega) (R2.out.new (by repeat (first | with_reducible exact Below.refl _ _ | (with_reducible exact HB.out) | (with_reducible refine Below.setCell ?_ (by first | omega | (simp; done) | (simp <;> omega)) _) | (with_reducible refine Below.alloc ?_ (by first | omega | (simp; done) | (simp <;> omega)) _) | (refine Below.alloc ?_ (by first | omega | (simp; done) | (simp <;> omega)) _) | (refine Below.setCell ?_ (by first | omega | (simp; done) | (simp <;> omega)) _))))) ?_
  rintro e w2 hq
  obtain ⟨rfl, hb⟩ := hq.says
  obtain ⟨hc2, hf2⟩ := bcell hb
  have hs2 := hb.size
  (try simp at hs2)
  replace HB := Lib.hid (show Below w.heap.size w w2 from Below.trans (by repeat (first | with_reducible exact Below.refl _ _ | (with_reducible exact HB.out) | (with_reducible refine Below.setCell ?_ (by first | omega | (simp; done) | (simp <;> omega)) _) | (with_reducible refine Below.alloc ?_ (by first | omega | (simp; done) | (simp <;> omega)) _) | (refine Below.alloc ?_ (by first | omega | (simp; done) | (simp <;> omega)) _) | (refine Below.setCell ?_ (by first | omega | (simp; done) | (simp <;> omega)) _))) (hb.mono (by first | omega | (simp; done) | (simp <;> omega))))
  have z2_0 : w.heap.size < w2.heap.size := by omega
  clear hb
  go_wp2_with fail
  go_ret
  exact ⟨rfl, by repeat (first | with_reducible exact Below.refl _ _ | (with_reducible exact HB.out) | (with_reducible refine Below.setCell ?_ (by first | omega | (simp; done) | (simp <;> omega)) _) | (with_reducible refine Below.alloc ?_ (by first | omega | (simp; done) | (simp <;> omega)) _) | (refine Below.alloc ?_ (by first | omega | (simp; done) | (simp <;> omega)) _) | (refine Below.setCell ?_ (by first | omega | (simp; done) | (simp <;> omega)) _))⟩

end Go.Proofs.Ytmdmihilhilkiaa
