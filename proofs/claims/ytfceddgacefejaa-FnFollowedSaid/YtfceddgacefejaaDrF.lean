/- Lists of rules that send on. No condition of its own. -/
import Derived.Test.YtfceddgacefejaaDrR
import Derived.Test.YtfceddgacefejaaDrT
import Derived.Test.YtfceddgacefejaaFun
import Derived.Test.YtfceddgacefejaaApp
import Derived.Deep.LoopGhost
namespace Go.Proofs.Ytfceddgacefejaa
open Go Go.ChangeShapes Go.WideShapes Go.ChangeAt Go.RowKit Go.Lib
set_option linter.unusedVariables false
set_option linter.unusedSimpArgs false
set_option maxRecDepth 100000
set_option maxHeartbeats 8000000 in
theorem send_any (g n cap : Nat) (A : Option Addr) (w : World) (hn : n ≤ maxLen) (hc : Cur w g A n cap) :
    Calls Try.prog 157 #[.pointer (some ⟨g, 0, none⟩)] w (DrwL 165 8 12 TRule.cells TRule.fit g A n cap w) := by
  have HC := Lib.hid hc
  have HLT := Lib.hid hc.lt
  clear hc
  go_enter Try.func157, Try.ntmps157
  go_wp2_with fail
  refine (rules_any g n cap A _ hn HC.out).mono ?_
  rintro e w0 ⟨v0, l0, rfl, hl0, hu0, ho0, hc0, hg0⟩
  have HO0 := Lib.hid ho0
  have HU0 := Lib.hid hu0
  have HC0 := Lib.hid hc0
  have HG0 := Lib.hid hg0
  clear hc0 hg0 ho0 hu0 HC
  go_wp2_with fail
  refine (below_any g n cap A 5 _ hn HC0.out (by omega) (by omega)).mono ?_
  rintro e w1 ⟨y, hy0, hy1, rfl, hc1, hg1⟩
  obtain ⟨m, rfl⟩ := Int.eq_ofNat_of_zero_le hy0
  have hm : m ≤ 4 := by omega
  have HO1 := Lib.hid (dr_own HO0.out HLT.out hg1)
  have HC1 := Lib.hid hc1
  have HG1 := Lib.hid (grown_both HG0.out hg1)
  clear hc1 hg1 HO0 HC0 HG0
  go_wp2_with fail
  go_loopw [3, 4] (fun v i wr => ∃ (k : Nat) (l : List TRule), k ≤ m ∧ l.length + k ≤ 8 + m ∧ Hid (∀ x ∈ l, TRule.fit x) ∧ i = .int .i64 k ∧ Hid (wr.ownsRow w.heap.size 165 8 v l.length (l.flatMap TRule.cells)) ∧ Hid (Cur wr g A n cap) ∧ Hid (w.grownBy wr (some g))) (fun _ i _ => (intOf i).toNat)
  case atStart => exact ⟨m, l0, Nat.le_refl _, by omega, HU0, rfl, HO1, HC1, HG1⟩
  case round =>
    obtain ⟨k, l, hk, hl, HU, rfl, HO, HCW, HGW⟩ := hrel
    have HS := Lib.hid HGW.out.size
    have hll : l.length ≤ 12 := by omega
    have HLL := Lib.hid hl
    clear hl
    by_cases hlt : 0 < k
    · obtain ⟨k', rfl⟩ : ∃ k', k = k' + 1 := ⟨k - 1, by omega⟩
      have hwk : IntKind.i64.wrap (((k' + 1 : Nat) : Int) - 1) = (k' : Int) := by rw [IntWalk.i64_in _ (by omega)]; omega
      go_wp2_with fail
      refine (below_any g n cap A 3 _ hn HCW.out (by omega) (by omega)).mono ?_
      rintro e w2 ⟨y, hya, hyb, rfl, hc2, hg2⟩
      have hwy : IntKind.i64.wrap (1 + y) = 1 + y := IntWalk.i64_in _ (by omega)
      have HC2 := Lib.hid hc2
      have HO2 := Lib.hid (dr_own HO.out HLT.out hg2)
      have HG2 := Lib.hid (grown_both HGW.out hg2)
      clear hc2 hg2 HO HCW HGW
      go_wp2_with fail
      refine (pat_any g n cap A _ hn HC2.out).mono ?_
      rintro e w3 ⟨p, hp, rfl, hc3, hg3⟩
      have HC3 := Lib.hid hc3
      have HO3 := Lib.hid (dr_own HO2.out HLT.out hg3)
      have HG3 := Lib.hid (grown_both HG2.out hg3)
      clear hc3 hg3 HO2 HC2 HG2
      go_wp2_with fail
      refine (site_any g n cap A _ hn HC3.out).mono ?_
      rintro e w4 ⟨s, hs, rfl, hc4, hg4⟩
      have HC4 := Lib.hid hc4
      have HO4 := Lib.hid (dr_own HO3.out HLT.out hg4)
      have HG4 := Lib.hid (grown_both HG3.out hg4)
      have hszg : w.heap.size ≤ w4.heap.size := HG4.out.size
      clear hc4 hg4 HO3 HC3 HG3
      have HX := Lib.hid (show l.flatMap TRule.cells ++ (#[.int .i64 (1 + y), .int .i64 4, .int .i64 p.f0, .int .i64 p.f1, .int .i64 0, .int .i64 3, .int .i64 s.f0, .int .i64 s.f1] : Array Value).toList = (l ++ [(⟨1 + y, 4, p.f0, p.f1, 0, 3, s.f0, s.f1⟩ : TRule)]).flatMap TRule.cells by simp [List.flatMap_append, TRule.cells])
      have HXB := Lib.hid (show ∀ z ∈ l ++ [(⟨1 + y, 4, p.f0, p.f1, 0, 3, s.f0, s.f1⟩ : TRule)], TRule.fit z from fun z hz => by
        simp only [List.mem_append, List.mem_singleton] at hz
        rcases hz with hz | rfl
        · exact HU.out z hz
        · unfold TPattern.fit at hp; unfold TSite.fit at hs; unfold TRule.fit; simp only; omega)
      clear hp hs
      go_wp2_with (at_builtin; refine wp_app_lit rfl _ _ _ rfl w.heap.size 165 (.agg #[.int .i64 0, .int .i64 0, .int .i64 0, .int .i64 0, .int .i64 0, .int .i64 0, .int .i64 0, .int .i64 0]) 8 64 Try.underlying55 infoRule rfl (by decide) _ _ _ rfl HO4.out #[.int .i64 (1 + y), .int .i64 4, .int .i64 p.f0, .int .i64 p.f1, .int .i64 0, .int .i64 3, .int .i64 s.f0, .int .i64 s.f1] 1 1 _ rfl (by simp) rfl (onesRule ⟨1 + y, 4, p.f0, p.f1, 0, 3, s.f0, s.f1⟩) (by unfold maxLen; omega) (by omega) (by omega) ?_; intro v1 w5 ho2 hb2; have HO5 := Lib.hid ho2; have HB5 := Lib.hid hb2; clear ho2 hb2)
      go_roundw
      case rel => exact ⟨k', l ++ [(⟨1 + y, 4, p.f0, p.f1, 0, 3, s.f0, s.f1⟩ : TRule)], by omega, by have := HLL.out; simp; omega, HXB, by go_num, Lib.hid (by rw [← HX.out]; simpa using HO5.out), Lib.hid (dr_cur_low HC4.out HLT.out HB5.out), Lib.hid (dr_low HG4.out (Nat.le_refl _) HB5.out)⟩
      case measure => simp [intOf]
    · obtain rfl : k = 0 := by omega
      go_wp2_with fail
      go_ret
      exact ⟨_, l, rfl, hll, HU.out, HO.out, HCW.out, HGW.out⟩
end Go.Proofs.Ytfceddgacefejaa
