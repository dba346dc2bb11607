/- Draws of lists of rules with a quota. No condition of its own. -/
import Derived.Test.YtlnmgfbfpjfddaaDrR
import Derived.Test.YtlnmgfbfpjfddaaRAddO
import Derived.Test.YtlnmgfbfpjfddaaFun
import Derived.Deep.LoopGhost
namespace Go.Proofs.Ytlnmgfbfpjfddaa
open Go Go.ChangeShapes Go.WideShapes Go.ChangeAt Go.RowKit Go.Lib
set_option linter.unusedVariables false
set_option linter.unusedSimpArgs false
set_option maxRecDepth 100000
theorem own_row {W : World} {B b z m : Nat} {E : TypeId} {v : Value} {xs : List Value} (h : W.ownsRow B E z v m xs) (hb : b < B) (cs : Array Value) : (W.setRow b cs).ownsRow B E z v m xs := by
  refine ⟨h.1, ?_⟩
  rcases h.2 with h0 | ⟨k, c, cur, hv, hk, hr, rest⟩
  · exact .inl h0
  · exact .inr ⟨k, c, cur, hv, hk, (setRow_other W b k cs (by omega)).trans hr, rest⟩
theorem fr_grown {w w1 : World} {lo hi z m c g : Nat} {E : TypeId} {A : Option Addr} {xs : List Value} (h : Fr w lo hi E z A m c xs) (hg : w.grownBy w1 (some g)) (hl : g < lo) : Fr w1 lo hi E z A m c xs :=
  h.keep fun b h1 _ h3 => hg.block b h3 (by intro e; injection e; omega)
set_option maxHeartbeats 8000000 in
theorem quota_any (g n cap : Nat) (A : Option Addr) (w : World) (hn : n ≤ maxLen) (hc : Cur w g A n cap) :
    Calls Try.prog 139 #[.pointer (some ⟨g, 0, none⟩)] w (DrwL 28 8 19 TRule.cells TRule.fit g A n cap w) := by
  have HC := Lib.hid (hc.new (.cells #[] 28))
  have HLT := Lib.hid hc.lt
  clear hc
  go_enter Try.func139, Try.ntmps139
  go_wp2_with fail
  refine (below_any g n cap A 12 _ hn HC.out (by omega) (by omega)).mono ?_
  rintro e w0 ⟨y, hy0, hy1, rfl, hc0, hg0⟩
  obtain ⟨m, rfl⟩ := Int.eq_ofNat_of_zero_le hy0
  have hm : m ≤ 11 := by omega
  have HO0 := Lib.hid (dr_own (World.ownsRow_lit (e := 28) (size := 8) w #[] 0 (Nat.le_refl _) (by unfold maxLen; omega) rfl) HLT.out hg0)
  have HC0 := Lib.hid hc0
  have HG0 := Lib.hid (grown_both (grown_new w (.cells #[] 28) _) hg0)
  clear hc0 hg0
  go_wp2_with fail
  go_loopw [3, 4] (fun v i wr => ∃ (k : Nat) (l : List TRule), k ≤ m ∧ l.length + k ≤ m ∧ Hid (∀ x ∈ l, TRule.fit x) ∧ i = .int .i64 k ∧ Hid (wr.ownsRow w.heap.size 28 8 v l.length (l.flatMap TRule.cells)) ∧ Hid (Cur wr g A n cap) ∧ Hid (w.grownBy wr (some g))) (fun _ i _ => (intOf i).toNat)
  case atStart => exact ⟨m, [], Nat.le_refl _, by simp, Lib.hid (fun _ h => by cases h), rfl, HO0, HC0, HG0⟩
  case round =>
    obtain ⟨k, l, hk, hl, HU, rfl, HO, HCW, HGW⟩ := hrel
    have hszr : w.heap.size ≤ wr.heap.size := HGW.out.size
    have hlg := HLT.out
    by_cases hlt : 0 < k
    · obtain ⟨k', rfl⟩ : ∃ k', k = k' + 1 := ⟨k - 1, by omega⟩
      have hwk : IntKind.i64.wrap (((k' + 1 : Nat) : Int) - 1) = (k' : Int) := by rw [IntWalk.i64_in _ (by omega)]; omega
      obtain ⟨A', c', rfl, hF⟩ := fr_of_own HO.out
      have HF := Lib.hid hF
      clear hF
      go_wp2_with fail
      refine (rule_any g n cap A _ hn HCW.out).mono ?_
      rintro e w1 ⟨x, hx, rfl, hc1, hg1⟩
      have HF1 := Lib.hid (fr_grown HF.out hg1 hlg).rd
      have HC1 := Lib.hid hc1
      have HG1 := Lib.hid (grown_both HGW.out hg1)
      have HX := Lib.hid hx
      have hlc : g < w1.heap.size := hc1.lt
      have hsz1 : w.heap.size ≤ w1.heap.size := HG1.out.size
      clear hc1 hg1 hx
      go_wp2_with fail
      refine Calls.mono (spec_AddRuleO l A' l.length c' _ _ x _ (by omega) HF1.out HU HX) ?_
      rintro e w2 ⟨v2, rfl, ho2, hb2⟩
      have HO2 := Lib.hid (dr_own_base ho2 hsz1)
      have HC2 := Lib.hid (dr_cur_low HC1.out hlc hb2)
      have HG2 := Lib.hid (dr_low HG1.out hsz1 hb2)
      have HU2 := Lib.hid (show ∀ z ∈ mRAdd l x, TRule.fit z from fun z hz => by
        unfold mRAdd at hz
        split at hz
        · rcases List.mem_append.1 hz with hz | hz
          · exact HU.out z hz
          · rw [List.mem_singleton.1 hz]; exact HX.out
        · exact HU.out z hz)
      have hl2 := mRAdd_len l x
      generalize mRAdd l x = l2 at HO2 HU2 hl2
      clear ho2 hb2 HF1 HF HO
      go_wp2_with fail
      go_roundw
      case rel => exact ⟨k', l2, by omega, by omega, HU2, by go_num, HO2, HC2, HG2⟩
      case measure => simp [intOf]
    · obtain rfl : k = 0 := by omega
      go_wp2_with fail
      refine (once_any g n cap A 8 _ hn HCW.out (by omega) (by omega)).mono ?_
      rintro e w3 ⟨b, rfl, hc3, hg3⟩
      have HO3 := Lib.hid (dr_own HO.out hlg hg3)
      have HC3 := Lib.hid hc3
      have HG3 := Lib.hid (grown_both HGW.out hg3)
      clear hc3 hg3 HO HCW HGW
      cases b
      · go_wp2_with fail
        go_ret
        exact ⟨_, l, rfl, by omega, HU.out, HO3.out, HC3.out, HG3.out⟩
      · go_wp2_with fail
        go_loopg [3, 5] 8 (fun gg v i wr => ∃ (k : Nat) (l2 : List TRule), k ≤ 8 ∧ 8 - k ≤ gg ∧ l2.length ≤ 11 + k ∧ Hid (∀ x ∈ l2, TRule.fit x) ∧ i = .int .i64 k ∧ Hid (wr.ownsRow w.heap.size 28 8 v l2.length (l2.flatMap TRule.cells)) ∧ Hid (Cur wr g A n cap) ∧ Hid (w.grownBy wr (some g)))
        case atStart => exact ⟨0, l, Nat.zero_le _, by omega, by omega, HU, rfl, HO3, HC3, HG3⟩
        case round =>
          obtain ⟨k, l2, hk2, hgk, hl2, HU2, rfl, HO, HCW, HGW⟩ := hrel
          have hszr : w.heap.size ≤ wr.heap.size := HGW.out.size
          by_cases hlt : k < 8
          · have hw1 : IntKind.i64.wrap (1 + (k : Int)) = 1 + (k : Int) := IntWalk.i64_in _ (by omega)
            have HX := Lib.hid (show l2.flatMap TRule.cells ++ (#[.int .i64 1, .int .i64 (1 + (k : Int)), .int .i64 0, .int .i64 (-1), .int .i64 0, .int .i64 1, .int .i64 0, .int .i64 0] : Array Value).toList = (l2 ++ [(⟨1, 1 + (k : Int), 0, -1, 0, 1, 0, 0⟩ : TRule)]).flatMap TRule.cells by simp [List.flatMap_append, TRule.cells])
            have HXB := Lib.hid (show ∀ z ∈ l2 ++ [(⟨1, 1 + (k : Int), 0, -1, 0, 1, 0, 0⟩ : TRule)], TRule.fit z from fun z hz => by
              rcases List.mem_append.1 hz with hz | hz
              · exact HU2.out z hz
              · rw [List.mem_singleton.1 hz]; unfold TRule.fit; simp only; omega)
            go_wp2_with (at_builtin; refine wp_app_lit rfl _ _ _ rfl w.heap.size 28 (.agg #[.int .i64 0, .int .i64 0, .int .i64 0, .int .i64 0, .int .i64 0, .int .i64 0, .int .i64 0, .int .i64 0]) 8 64 Try.underlying40 infoRule rfl (by decide) _ _ _ rfl HO.out #[.int .i64 1, .int .i64 (1 + (k : Int)), .int .i64 0, .int .i64 (-1), .int .i64 0, .int .i64 1, .int .i64 0, .int .i64 0] 1 1 _ rfl (by simp) rfl (onesRule ⟨1, 1 + (k : Int), 0, -1, 0, 1, 0, 0⟩) (by unfold maxLen; omega) (by omega) (by omega) ?_; intro v1 w2 ho2 hb2; have HO2 := Lib.hid ho2; have HB2 := Lib.hid hb2; clear ho2 hb2)
            go_roundg (8 - (k + 1))
            case measure => omega
            case rel => exact ⟨k + 1, l2 ++ [(⟨1, 1 + (k : Int), 0, -1, 0, 1, 0, 0⟩ : TRule)], by omega, by omega, by simp; omega, HXB, by go_num, Lib.hid (by rw [← HX.out]; simpa using HO2.out), Lib.hid (dr_cur_low HCW.out hlg HB2.out), Lib.hid (dr_low HGW.out (Nat.le_refl _) HB2.out)⟩
          · go_wp2_with fail
            go_ret
            exact ⟨_, l2, rfl, by omega, HU2.out, HO.out, HCW.out, HGW.out⟩
end Go.Proofs.Ytlnmgfbfpjfddaa
