/- RulesOf, of the program and of the model. -/
import Derived.Test.YtlnmgfbfpjfddaaRB
import Derived.Test.YtlnmgfbfpjfddaaKRulesOf
namespace Go.Proofs.Ytlnmgfbfpjfddaa
open Go Go.ChangeShapes Go.WideShapes Go.ChangeAt Go.RowKit Go.Lib
set_option linter.unusedVariables false
set_option linter.unusedSimpArgs false
set_option maxRecDepth 100000
set_option maxHeartbeats 8000000 in
theorem spec_RulesOf (l : List TRule) (A : Option Addr) (n c lo hi : Nat) (a1 : Int) (w : World) (hn : n ≤ 1048576) (hr : Rd w lo hi 8 A n (cRule l)) (H : Hid (cRuleOk l)) (wfa1 : (Lit.int .i64 a1).wf = true) :
    Calls Try.prog 212 #[.slice A n c, .int .i64 a1] w (Makes 28 8 (l.filter fun x => x.f0 == a1).length (cRule (l.filter fun x => x.f0 == a1)) w) := by
  have HL := Lib.hid (rd_len TRule.len hr (by decide))
  have HR := Lib.hid hr
  clear hr wfa1
  generalize hP : (fun x : TRule => x.f0 == a1) = P
  have HP := Lib.hid hP
  clear hP
  go_enter Try.func212, Try.ntmps212
  go_wp2_with fail
  go_loopg [5, 6] n (fun gg v i wr => ∃ k : Nat, k ≤ n ∧ n - k ≤ gg ∧ i = .int .i64 k ∧ Hid (wr.ownsRow w.heap.size 28 8 v ((l.take k).filter P).length (cRule ((l.take k).filter P))) ∧ Hid (Below w.heap.size w wr))
  case atStart => exact ⟨0, Nat.zero_le _, by omega, rfl, Lib.hid (World.ownsRow_lit w #[] 0 (Nat.le_refl _) (by unfold maxLen; omega) rfl), Lib.hid ((Below.refl _ _).alloc (Nat.le_refl _) _)⟩
  case round =>
    obtain ⟨k, hk, hg, rfl, HO, HB⟩ := hrel
    by_cases hlt : k < n
    · obtain ⟨b, off, x, rfl, _, _, hz, hc⟩ := rd_elem TRule.len (HR.out.new HB.out) HL.out hlt
      have c0 : wr.cell? ⟨b, off + k * 8, none⟩ = _ := hc 0 _ rfl
      have c1 := hc 1 _ rfl
      have c2 := hc 2 _ rfl
      have c3 := hc 3 _ rfl
      have c4 := hc 4 _ rfl
      have c5 := hc 5 _ rfl
      have c6 := hc 6 _ rfl
      have c7 := hc 7 _ rfl
      have hbl : b < wr.heap.size := World.block_lt_of_cell? _ _ c0
      have HE := Lib.hid (filter_sn P hz)
      have HN := Lib.hid (Nat.le_trans (List.length_filter_le P (l.take k)) (List.length_take_le _ _))
      have HPx := Lib.hid (show (x.f0 == a1) = P x by rw [← HP.out])
      clear hz hc
      by_cases h0 : (x.f0 == a1) = true
      · skip
        have H2 := Lib.hid (by have := HE.out; rwa [if_pos (by rw [← HPx.out]; simp [h0])] at this)
        clear HE HPx
        have HS := Lib.hid HB.out.size
        go_wp2_with (at_builtin; refine wp_app_lit rfl _ _ _ rfl w.heap.size 28 (.agg #[.int .i64 0, .int .i64 0, .int .i64 0, .int .i64 0, .int .i64 0, .int .i64 0, .int .i64 0, .int .i64 0]) 8 64 Try.underlying40 infoRule rfl (by decide) _ _ _ rfl HO.out #[.int .i64 x.f0, .int .i64 x.f1, .int .i64 x.f2, .int .i64 x.f3, .int .i64 x.f4, .int .i64 x.f5, .int .i64 x.f6, .int .i64 x.f7] 1 1 _ rfl (by simp) rfl (onesRule x) (by have := HN.out; unfold maxLen; omega) (by have := HN.out; omega) (by have := HS.out; omega) ?_; intro v1 w2 ho1 hb2)
        have HO2 := Lib.hid (show w2.ownsRow w.heap.size 28 8 v1 ((l.take (k + 1)).filter P).length (cRule ((l.take (k + 1)).filter P)) by rw [H2.out]; simpa [cRule, List.flatMap_append, TRule.cells] using ho1)
        have HB2 := Lib.hid (HB.out.trans hb2)
        clear ho1 hb2
        go_wp2_with fail
        go_roundg (n - (k + 1))
        case measure => omega
        case rel => exact ⟨k + 1, by omega, by omega, by go_num, HO2, HB2⟩
      · have h0 : (x.f0 == a1) = false := by simpa using h0
        have H2 := Lib.hid (by have := HE.out; rwa [if_neg (by rw [← HPx.out]; simp [h0])] at this)
        clear HE HPx
        go_wp2_with fail
        have HS := Lib.hid HB.out.size
        go_roundg (n - (k + 1))
        case measure => omega
        case rel => exact ⟨k + 1, by omega, by omega, by go_num, by rw [H2.out]; exact HO, HB⟩
    · obtain rfl : k = n := by omega
      have HO2 := Lib.hid (show wr.ownsRow w.heap.size _ _ _ (l.filter P).length (cRule (l.filter P)) by have := HO.out; rwa [List.take_of_length_le (by rw [HL.out]; omega)] at this)
      clear HO
      go_wp2_with fail
      go_ret
      exact makes_of_own HO2.out HB.out

set_option maxHeartbeats 4000000 in
theorem clo_RulesOf (a1 : Int) (B : Nat) (l : List TRule) (w : World) (hq0 : w.cell? ⟨B, 0, none⟩ = some (.int .i64 a1)) :
    PredB Try.prog 97 #[.pointer (some ⟨B, 0, none⟩)] (fun x : TRule => .agg #[.int .i64 x.f0, .int .i64 x.f1, .int .i64 x.f2, .int .i64 x.f3, .int .i64 x.f4, .int .i64 x.f5, .int .i64 x.f6, .int .i64 x.f7]) (fun x => x.f0 == a1) l w := fun W x _ hb => by
  have c0 := cell_nw hb hq0
  have m0 : B < W.heap.size := World.block_lt_of_cell? _ _ c0
  have n0 : B ≠ W.heap.size := Nat.ne_of_lt m0
  clear hb hq0
  change Calls Try.prog _ #[.agg #[.int .i64 x.f0, .int .i64 x.f1, .int .i64 x.f2, .int .i64 x.f3, .int .i64 x.f4, .int .i64 x.f5, .int .i64 x.f6, .int .i64 x.f7], .pointer (some ⟨B, 0, none⟩)] _ (Says (.bool (x.f0 == a1)) W)
  have HE := Lib.hid (show (x.f0 == a1) = (x.f0 == a1) by simp [])
  go_enter Try.func97, Try.ntmps97
  go_wp2_with fail
  go_ret
  exact ⟨by first | rfl | (rw [HE.out]; rfl), by repeat (first | with_reducible exact Below.refl _ _ | (with_reducible refine below_step ?_ (by assumption) (by first | omega | (simp; done) | (simp <;> omega))) | (with_reducible refine Below.alloc ?_ (by first | omega | (simp; done) | (simp <;> omega)) _) | (with_reducible refine Below.setCell ?_ (by first | omega | (simp; done) | (simp <;> omega)) _) | (with_reducible refine Below.drew ?_) | (with_reducible refine below_dN ?_ _) | (refine Below.alloc ?_ (by first | omega | (simp; done) | (simp <;> omega)) _))⟩

set_option maxHeartbeats 4000000 in
theorem impl_RulesOf (l : List TRule) (A : Option Addr) (n c lo hi : Nat) (a1 : Int) (w : World) (hn : n ≤ 1048576) (hr : Rd w lo hi 8 A n (cRule l)) (H : Hid (cRuleOk l)) (wfa1 : (Lit.int .i64 a1).wf = true) :
    Calls Try.prog 21 #[.slice A n c, .int .i64 a1] w (Makes 28 8 (l.filter fun x => x.f0 == a1).length (cRule (l.filter fun x => x.f0 == a1)) w) := by
  have hmf : ∀ (fn : Fn) (first cap : Array Value) (w : World), (Instr.makeFunc fn first cap).run Try.prog w = .ok (.func fn first cap) w := fun _ _ _ _ => rfl
  have e0 : ((w.alloc (.cells #[.int .i64 a1] 3)).alloc (.cells #[.func (.func 97) #[] (#[.pointer (some ⟨w.heap.size, 0, none⟩)])] 37)).cell? ⟨w.heap.size, 0, none⟩ = some (.int .i64 a1) := by repeat (first | (with_reducible refine cell_newest (by simp) rfl) | (with_reducible refine cell_al ?_))
  have HC := Lib.hid (kRulesOf.keep (fun x => x.f0 == a1) (#[.pointer (some ⟨w.heap.size, 0, none⟩)]) l A n c lo hi (w.heap.size + 1) ((w.alloc (.cells #[.int .i64 a1] 3)).alloc (.cells #[.func (.func 97) #[] (#[.pointer (some ⟨w.heap.size, 0, none⟩)])] 37)) hn ((hr.alloc _).alloc _) (by first | exact box_new _ _ _ | simpa using box_new (w.alloc (.cells #[.int .i64 a1] 3)) 37 #[.func (.func 97) #[] (#[.pointer (some ⟨w.heap.size, 0, none⟩)])]) (clo_RulesOf a1 w.heap.size l _ e0))
  clear hr wfa1 e0
  generalize (l.filter fun x => x.f0 == a1) = r at HC ⊢
  go_enter Try.func21, Try.ntmps21
  go_wp2_with fail
  refine HC.out.mono ?_
  rintro e w1 ⟨v, rfl, ho1, hb1⟩
  have HO1 := Lib.hid ho1
  have HB1 := Lib.hid (below_trans (((Below.refl _ _).alloc (Nat.le_refl _) _).alloc (by simp <;> omega) _) hb1 (by simp <;> omega))
  have HM := Lib.hid (own_base (base' := w.heap.size) ho1 (by simp <;> omega))
  clear ho1 hb1
  go_wp2_with fail
  go_ret
  exact makes_of_own HM.out HB1.out
end Go.Proofs.Ytlnmgfbfpjfddaa
