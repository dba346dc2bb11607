/- DrawRulesOf. No condition of its own. -/
import Derived.Test.YtlnmgfbfpjfddaaDrT
namespace Go.Proofs.Ytlnmgfbfpjfddaa
open Go Go.ChangeShapes Go.WideShapes Go.ChangeAt Go.RowKit Go.Lib
set_option linter.unusedVariables false
set_option linter.unusedSimpArgs false
set_option maxRecDepth 100000
/-- A list of rules and a number are drawn. -/
def DrawnRO (w : World) (e : Ending) (w' : World) : Prop :=
  ∃ (A : Option Addr) (c : Nat) (l : List TRule) (y : Int), e = .returned (.tuple #[.slice A l.length c, .int .i64 y]) ∧ l.length ≤ 8 ∧ (∀ x ∈ l, x.fit) ∧ 0 ≤ y ∧ y ≤ 5 - 1 ∧ Rd w' w.heap.size w'.heap.size 8 A l.length (cRule l) ∧ Below w.heap.size w w'
set_option maxHeartbeats 8000000 in
theorem drawRO_any (n cap : Nat) (A : Option Addr) (w : World) (hn : n ≤ 140737488355328) (hb : BytesAt w w.heap.size A n) :
    Calls Try.prog 20 #[.slice A n cap] w (DrawnRO w) := by
  have hn' : n ≤ maxLen := by unfold maxLen; omega
  have HY := Lib.hid hb
  have HB := Lib.hid (Below.refl w.heap.size w)
  clear hb
  go_enter Try.func20, Try.ntmps20
  go_wp2_with fail
  refine Calls.mono (dr_new n cap A w _ w.heap.size (by simp) hn HY.out HB.out) ?_
  rintro e w1 ⟨rfl, hc, hb1⟩
  have HC := Lib.hid hc
  replace HB := Lib.hid (HB.out.trans (hb1.mono (by omega)))
  have l1 : w.heap.size < w1.heap.size := HC.out.lt
  clear hc hb1
  go_wp2_with fail
  refine Calls.mono (rules_any w.heap.size n cap A _ hn' HC.out) ?_
  rintro e w2 ⟨v, l, rfl, hl, hu, ho, hc, hg⟩
  replace HB := Lib.hid (dr_below HB.out (by omega) hg)
  replace HC := Lib.hid hc
  have l2 : w.heap.size < w2.heap.size := HC.out.lt
  clear hc hg
  have HO := Lib.hid ho
  have HU := Lib.hid hu
  clear ho hu
  go_wp2_with fail
  refine Calls.mono (below_any w.heap.size n cap A 5 _ hn' HC.out (by omega) (by omega)) ?_
  rintro e w3 ⟨y, hya, hyb, rfl, hc, hg⟩
  replace HO := Lib.hid (dr_own HO.out (by omega) hg)
  replace HB := Lib.hid (dr_below HB.out (by omega) hg)
  replace HC := Lib.hid hc
  have l3 : w.heap.size < w3.heap.size := HC.out.lt
  clear hc hg
  obtain ⟨A', c', rfl, hF⟩ := fr_of_own HO.out
  have HR := Lib.hid (show Rd w3 w.heap.size w3.heap.size 8 A' l.length (cRule l) from hF.rd.mono (by omega) (Nat.le_refl _))
  clear hF HO
  go_wp2_with fail
  go_ret2
  exact ⟨A', c', l, y, rfl, hl, HU.out, hya, hyb, HR.out, HB.out⟩
end Go.Proofs.Ytlnmgfbfpjfddaa
