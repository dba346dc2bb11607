/- DrPc, what is needed of it. -/
import Derived.Test.YtcankpiidjhhpaaYDrPb
import Derived.Test.YtcankpiidjhhpaaYDrT
import Derived.Test.YtcankpiidjhhpaaYDrY
namespace Go.Proofs.Ytcankpiidjhhpaa
open Go Go.ChangeShapes Go.WideShapes Go.ChangeAt Go.RowKit Go.Lib
set_option linter.unusedVariables false
set_option linter.unusedSimpArgs false
set_option maxRecDepth 100000
theorem rd_top {w : World} {lo hi size n : Nat} {A : Option Addr} {xs : List Value} (h : Rd w lo hi size A n xs) (hs : 0 < size) : Rd w lo w.heap.size size A n xs :=
  ⟨h.1, fun hn => by
    obtain ⟨b, off, e, hl, _, hc⟩ := h.2 hn
    have hlt : 0 < xs.length := by rw [h.1]; exact Nat.mul_pos hn hs
    exact ⟨b, off, e, hl, World.block_lt_of_cell? _ _ (hc 0 _ (List.getElem?_eq_getElem hlt)), hc⟩⟩
/-- A program, values, flows and an extension are drawn. -/
def DrawnPr (w : World) (e : Ending) (w' : World) : Prop :=
  ∃ (A : Option Addr) (c : Nat) (l : List TOp) (A1 : Option Addr) (c1 : Nat) (q : List Int) (A2 : Option Addr) (c2 : Nat) (f : List TFlow) (x : Int), e = .returned (.tuple #[.slice A l.length c, .slice A1 q.length c1, .slice A2 f.length c2, .int .i64 x]) ∧ l.length ≤ 17 ∧ (∀ y ∈ l, y.fit) ∧ q.length ≤ 5 ∧ (∀ z ∈ q, -1 ≤ z ∧ z ≤ 1000) ∧ f.length ≤ 7 ∧ (∀ y ∈ f, y.fit) ∧ 1 ≤ x ∧ x ≤ 3 ∧ l.length ≤ c ∧ q.length ≤ c1 ∧ f.length ≤ c2 ∧ Rd w' w.heap.size w'.heap.size 4 A l.length (cOp l) ∧ Rd w' w.heap.size w'.heap.size 1 A1 q.length (i64s q) ∧ Rd w' w.heap.size w'.heap.size 3 A2 f.length (cFlow f) ∧ Below w.heap.size w w'
set_option maxHeartbeats 32000000 in
theorem drawPr_any (n cap : Nat) (A : Option Addr) (w : World) (hn : n ≤ 140737488355328) (hb : BytesAt w w.heap.size A n) :
    Calls Try.prog 19 #[.slice A n cap] w (DrawnPr w) := by
  have hn' : n ≤ maxLen := by unfold maxLen; omega
  have HY := Lib.hid hb
  have HB := Lib.hid (Below.refl w.heap.size w)
  clear hb
  go_enter Try.func19, Try.ntmps19
  go_wp2_with fail
  refine Calls.mono (dr_new n cap A w _ w.heap.size (by simp) hn HY.out HB.out) ?_
  rintro e w1 ⟨rfl, hc, hb1⟩
  have HC := Lib.hid hc
  replace HB := Lib.hid (HB.out.trans (hb1.mono (by omega)))
  have l1 : w.heap.size < w1.heap.size := HC.out.lt
  clear hc hb1
  go_wp2_with fail
  refine Calls.mono (opsa_any w.heap.size n cap A _ hn' HC.out) ?_
  rintro e w2 ⟨v, l, rfl, hl, hu, ho, hc, hg⟩
  have sz2 : w1.heap.size ≤ w2.heap.size := hg.size
  
  replace HB := Lib.hid (dr_below HB.out (by omega) hg)
  replace HC := Lib.hid hc
  have l2 : w.heap.size < w2.heap.size := HC.out.lt
  clear hc hg
  have HU := Lib.hid hu
  clear hu
  obtain ⟨AG, cG, rfl, hF⟩ := fr_of_own ho
  obtain ⟨hG, hhe⟩ : ∃ x, x = w2.heap.size := ⟨_, rfl⟩
  rw [← hhe] at hF
  have hGl : hG ≤ w2.heap.size := by omega
  clear hhe
  have HF1 := Lib.hid hF
  clear ho hF
  go_wp2_with fail
  refine Calls.mono (vals_any w.heap.size n cap A _ hn' HC.out) ?_
  rintro e w3 ⟨v, q, rfl, hq, hu, ho, hc, hg⟩
  have sz3 : w2.heap.size ≤ w3.heap.size := hg.size
  replace HF1 := Lib.hid (fr_grownL HF1.out hg (by omega))
  replace HB := Lib.hid (dr_below HB.out (by omega) hg)
  replace HC := Lib.hid hc
  have l3 : w.heap.size < w3.heap.size := HC.out.lt
  clear hc hg
  have HQ := Lib.hid hu
  clear hu
  obtain ⟨AQ, cQ, rfl, hF⟩ := fr_of_own ho
  obtain ⟨hQ, hhe⟩ : ∃ x, x = w3.heap.size := ⟨_, rfl⟩
  rw [← hhe] at hF
  have hQl : hQ ≤ w3.heap.size := by omega
  clear hhe
  have HF2 := Lib.hid hF
  clear ho hF
  go_wp2_with fail
  refine Calls.mono (flows_any w.heap.size n cap A _ hn' HC.out) ?_
  rintro e w4 ⟨v, f, rfl, hf, hu, ho, hc, hg⟩
  have sz4 : w3.heap.size ≤ w4.heap.size := hg.size
  replace HF1 := Lib.hid (fr_grownL HF1.out hg (by omega))
  replace HF2 := Lib.hid (fr_grownL HF2.out hg (by omega))
  replace HB := Lib.hid (dr_below HB.out (by omega) hg)
  replace HC := Lib.hid hc
  have l4 : w.heap.size < w4.heap.size := HC.out.lt
  clear hc hg
  have HW := Lib.hid hu
  clear hu
  obtain ⟨AF, cF, rfl, hF⟩ := fr_of_own ho
  obtain ⟨hK, hhe⟩ : ∃ x, x = w4.heap.size := ⟨_, rfl⟩
  rw [← hhe] at hF
  have hKl : hK ≤ w4.heap.size := by omega
  clear hhe
  have HF3 := Lib.hid hF
  clear ho hF
  go_wp2_with fail
  refine Calls.mono (below_any w.heap.size n cap A 3 _ hn' HC.out (by omega) (by omega)) ?_
  rintro e w5 ⟨ye, hea, heb, rfl, hc, hg⟩
  have sz5 : w4.heap.size ≤ w5.heap.size := hg.size
  replace HF1 := Lib.hid (fr_grownL HF1.out hg (by omega))
  replace HF2 := Lib.hid (fr_grownL HF2.out hg (by omega))
  replace HF3 := Lib.hid (fr_grownL HF3.out hg (by omega))
  replace HB := Lib.hid (dr_below HB.out (by omega) hg)
  replace HC := Lib.hid hc
  have l5 : w.heap.size < w5.heap.size := HC.out.lt
  clear hc hg
  have ek := IntWalk.i64_in (1 + ye) (by omega)
  have hk1 := HF1.out.cap
  have hk2 := HF2.out.cap
  have hk3 := HF3.out.cap
  have HR1 := (rd_top HF1.out.rd (by decide)).mono (lo' := w.heap.size) (hi' := w5.heap.size) (by omega) (Nat.le_refl _)
  have HR2 := (rd_top HF2.out.rd (by decide)).mono (lo' := w.heap.size) (hi' := w5.heap.size) (by omega) (Nat.le_refl _)
  have HR3 := (rd_top HF3.out.rd (by decide)).mono (lo' := w.heap.size) (hi' := w5.heap.size) (by omega) (Nat.le_refl _)
  go_wp2_with fail
  exact bodyPost_ret (v := .tuple #[.slice AG l.length cG, .slice AQ q.length cQ, .slice AF f.length cF, .int .i64 (1 + ye)]) (by simp [results, Try.results19, go_sem, ek]) rfl ⟨AG, cG, l, AQ, cQ, q, AF, cF, f, _, rfl, hl, HU.out, hq, HQ.out, hf, HW.out, by omega, by omega, hk1, hk2, hk3, HR1, HR2, HR3, HB.out⟩
end Go.Proofs.Ytcankpiidjhhpaa
