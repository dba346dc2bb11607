/- RulesOf, of the program and of the model. -/
import Derived.Test.YtfhoemgpilpapaaRB
import Derived.Test.YtfhoemgpilpapaaKRulesOf
namespace Go.Proofs.Ytfhoemgpilpapaa
open Go Go.ChangeShapes Go.WideShapes Go.ChangeAt Go.RowKit Go.Lib
set_option linter.unusedVariables false
set_option linter.unusedSimpArgs false
set_option maxRecDepth 100000
set_option maxHeartbeats 8000000 in
theorem spec_RulesOf (l : List TRule) (A : Option Addr) (n c lo hi : Nat) (a1 : Int) (w : World) (hn : n ≤ 1048576) (hr : Rd w lo hi 8 A n (cRule l)) (H : Hid (cRuleOk l)) (wfa1 : (Lit.int .i64 a1).wf = true) :
    Calls Try.prog 70 #[.slice A n c, .int .i64 a1] w (Makes 104 8 (l.filter fun x => x.f0 == a1).length (cRule (l.filter fun x => x.f0 == a1)) w) := by
  have HL := Lib.hid (rd_len TRule.len hr (by decide))
  have HR := Lib.hid hr
  clear hr wfa1
  generalize hP : (fun x : TRule => x.f0 == a1) = P
  have HP := Lib.hid hP
  clear hP
  go_enter Try.func70, Try.ntmps70
  go_wp2_with fail
  go_loopg [5, 6] n (fun gg v i wr => ∃ k : Nat, k ≤ n ∧ n - k ≤ gg ∧ i = .int .i64 k ∧ Hid (wr.ownsRow w.heap.size 104 8 v ((l.take k).filter P).length (cRule ((l.take k).filter P))) ∧ Hid (Below w.heap.size w wr))
  case atStart => exact ⟨0, Nat.zero_le _, by omega, rfl, Lib.hid (World.ownsRow_lit w #[] 0 (Nat.le_refl _) (by unfold maxLen; omega) rfl), Lib.hid ((Below.refl _ _).alloc (Nat.le_refl _) _)⟩
  case round =>
    obtain ⟨k, hk, hg, rfl, HO, HB⟩ := hrel
    by_cases hlt : k < n
    · obtain ⟨b, off, x, rfl, _, _, hz, hc⟩ := rd_elem TRule.len (HR.out.new HB.out) HL.out hlt
      have c0 : wr.cell? ⟨b, off + k * 8, none⟩ = _ := hc 0 _ rfl
      have c1 := hc 1 _ rfl
      have c2 := hc 2 _ rfl
      have c3 := hc 3 _ rfl
      have c4 := hc 4 _ rfl
      have c5 := hc 5 _ rfl
      have c6 := hc 6 _ rfl
      have c7 := hc 7 _ rfl
      have hbl : b < wr.heap.size := World.block_lt_of_cell? _ _ c0
      have HE := Lib.hid (filter_sn P hz)
      have HN := Lib.hid (Nat.le_trans (List.length_filter_le P (l.take k)) (List.length_take_le _ _))
      have HPx := Lib.hid (show (x.f0 == a1) = P x by rw [← HP.out])
      clear hz hc
      by_cases h0 : (x.f0 == a1) = true
      · skip
        have H2 := Lib.hid (by have := HE.out; rwa [if_pos (by rw [← HPx.out]; simp [h0])] at this)
        clear HE HPx
        have HS := Lib.hid HB.out.size
        go_wp2_with (at_builtin; refine wp_app_lit rfl _ _ _ rfl w.heap.size 104 (.agg #[.int .i64 0, .int .i64 0, .int .i64 0, .int .i64 0, .int .i64 0, .int .i64 0, .int .i64 0, .int .i64 0]) 8 64 Try.underlying37 infoRule rfl (by decide) _ _ _ rfl HO.out #[.int .i64 x.f0, .int .i64 x.f1, .int .i64 x.f2, .int .i64 x.f3, .int .i64 x.f4, .int .i64 x.f5, .int .i64 x.f6, .int .i64 x.f7] 1 1 _ rfl (by simp) rfl (onesRule x) (by have := HN.out; unfold maxLen; omega) (by have := HN.out; omega) (by have := HS.out; omega) ?_; intro v1 w2 ho1 hb2)
        have HO2 := Lib.hid (show w2.ownsRow w.heap.size 104 8 v1 ((l.take (k + 1)).filter P).length (cRule ((l.take (k + 1)).filter P)) by rw [H2.out]; simpa [cRule, List.flatMap_append, TRule.cells] using ho1)
        have HB2 := Lib.hid (HB.out.trans hb2)
        clear ho1 hb2
        go_wp2_with fail
        go_roundg (n - (k + 1))
        case measure => omega
        case rel => exact ⟨k + 1, by omega, by omega, by go_num, HO2, HB2⟩
      · have h0 : (x.f0 == a1) = false := by simpa using h0
        have H2 := Lib.hid (by have := HE.out; rwa [if_neg (by rw [← HPx.out]; simp [h0])] at this)
        clear HE HPx
        go_wp2_with fail
        have HS := Lib.hid HB.out.size
        go_roundg (n - (k + 1))
        case measure => omega
        case rel => exact ⟨k + 1, by omega, by omega, by go_num, by rw [H2.out]; exact HO, HB⟩
    · obtain rfl : k = n := by omega
      have HO2 := Lib.hid (show wr.ownsRow w.heap.size _ _ _ (l.filter P).length (cRule (l.filter P)) by have := HO.out; rwa [List.take_of_length_le (by rw [HL.out]; omega)] at this)
      clear HO
      go_wp2_with fail
      go_ret
      exact makes_of_own HO2.out HB.out

end Go.Proofs.Ytfhoemgpilpapaa
