/- AddRule, of the program and of the model. -/
import Derived.Test.YtlnmgfbfpjfddaaCanAdd
import Derived.Test.YtlnmgfbfpjfddaaRB
import Derived.Test.YtlnmgfbfpjfddaaApp
namespace Go.Proofs.Ytlnmgfbfpjfddaa
open Go Go.ChangeShapes Go.WideShapes Go.ChangeAt Go.RowKit Go.Lib
set_option linter.unusedVariables false
set_option linter.unusedSimpArgs false
set_option maxRecDepth 100000
def mRAdd (l : List TRule) (r : TRule) : List TRule := if mCan l r = true then l ++ [r] else l
theorem mRAdd_len (l : List TRule) (r : TRule) : (mRAdd l r).length ≤ l.length + 1 := by unfold mRAdd; split <;> simp
theorem mRAdd_no {l : List TRule} {r : TRule} (h : mCan l r = false) : mRAdd l r = l := by unfold mRAdd; rw [h]; rfl
theorem mRAdd_yes {l : List TRule} {r : TRule} (h : mCan l r = true) : mRAdd l r = l ++ [r] := by unfold mRAdd; rw [h]; rfl

set_option maxHeartbeats 8000000 in
theorem impl_AddRule (l : List TRule) (A : Option Addr) (n c lo hi : Nat) (r : TRule) (w : World) (hn : n ≤ 1048576) (hr : Rd w lo hi 8 A n (cRule l)) (H : Hid (cRuleOk l)) (Hr : Hid (TRule.fit r)) :
    Calls Try.prog 48 #[.slice A n c, vRule r] w (MakesV 28 8 (mRAdd l r).length (cRule (mRAdd l r)) (.bool (mCan l r)) w) := by
  have HL := Lib.hid (rd_len TRule.len hr (by decide))
  have C0 := fun W (hr : Rd W lo hi 8 A n (cRule l)) => impl_CanAddRule l A n c lo hi r W hn hr H Hr
  have HR := Lib.hid hr
  have HX0 := Lib.hid (box_new w 28 #[.int .i64 r.f0, .int .i64 r.f1, .int .i64 r.f2, .int .i64 r.f3, .int .i64 r.f4, .int .i64 r.f5, .int .i64 r.f6, .int .i64 r.f7])
  clear hr
  have Hno := mRAdd_no (l := l) (r := r)
  have Hyes := mRAdd_yes (l := l) (r := r)
  generalize mCan l r = b0 at C0 Hno Hyes ⊢
  replace C0 := Lib.hid C0
  cases b0
  · rw [Hno rfl]
    clear Hno Hyes
    go_enter Try.func48, Try.ntmps48
    go_wp2_with fail
    refine (clone_Rule l A n c lo hi _ hn (HR.out.alloc _)).mono ?_
    rintro e w1 ⟨v, rfl, ho1, hb1⟩
    have HO1 := Lib.hid (own_base (base' := w.heap.size) ho1 (by simp))
    have HX := Lib.hid (HX0.out.new hb1)
    have HB1 := Lib.hid (below_trans ((Below.refl _ _).alloc (Nat.le_refl _) _) hb1 (by simp))
    clear ho1 hb1
    have d0 : w1.cell? ⟨w.heap.size, 0, none⟩ = some (.int .i64 r.f0) := HX.out.at_ rfl
    have d1 : w1.cell? ⟨w.heap.size, 1, none⟩ = some (.int .i64 r.f1) := HX.out.at_ rfl
    have d2 : w1.cell? ⟨w.heap.size, 2, none⟩ = some (.int .i64 r.f2) := HX.out.at_ rfl
    have d3 : w1.cell? ⟨w.heap.size, 3, none⟩ = some (.int .i64 r.f3) := HX.out.at_ rfl
    have d4 : w1.cell? ⟨w.heap.size, 4, none⟩ = some (.int .i64 r.f4) := HX.out.at_ rfl
    have d5 : w1.cell? ⟨w.heap.size, 5, none⟩ = some (.int .i64 r.f5) := HX.out.at_ rfl
    have d6 : w1.cell? ⟨w.heap.size, 6, none⟩ = some (.int .i64 r.f6) := HX.out.at_ rfl
    have d7 : w1.cell? ⟨w.heap.size, 7, none⟩ = some (.int .i64 r.f7) := HX.out.at_ rfl
    have hlx := HX.out.lt
    go_wp2_with fail
    refine Calls.mono (C0.out _ (HR.out.new HB1.out)) ?_
    rintro e w2 ⟨rfl, hb2⟩
    have HO2 := Lib.hid (own_newer HO1.out hb2)
    replace HX := Lib.hid (HX.out.new hb2)
    have HB2 := Lib.hid (below_trans HB1.out hb2 (Nat.le_refl _))
    have HS2 := Lib.hid HB2.out.size
    clear hb2 d0 d1 d2 d3 d4 d5 d6 d7
    obtain ⟨A', c', hv, hF⟩ := fr_of_own HO2.out
    subst hv
    have HF := Lib.hid hF
    clear hF
    go_wp2_with fail
    go_ret2
    exact ⟨A', c', by first | (rw [List.length_append, HL.out]; rfl) | (rw [HL.out]; rfl) | (simp only [List.length_append, HL.out, List.length_singleton]; rfl), by first | (rw [List.length_append, HL.out]; simpa [cRule, List.flatMap_append, TRule.cells] using HF.out) | (rw [HL.out]; exact HF.out) | (rw [HL.out]; simpa [cRule, List.flatMap_append, TRule.cells] using HF.out), HB2.out⟩
  · rw [Hyes rfl]
    clear Hno Hyes
    go_enter Try.func48, Try.ntmps48
    go_wp2_with fail
    refine (clone_Rule l A n c lo hi _ hn (HR.out.alloc _)).mono ?_
    rintro e w1 ⟨v, rfl, ho1, hb1⟩
    have HO1 := Lib.hid (own_base (base' := w.heap.size) ho1 (by simp))
    have HX := Lib.hid (HX0.out.new hb1)
    have HB1 := Lib.hid (below_trans ((Below.refl _ _).alloc (Nat.le_refl _) _) hb1 (by simp))
    clear ho1 hb1
    have d0 : w1.cell? ⟨w.heap.size, 0, none⟩ = some (.int .i64 r.f0) := HX.out.at_ rfl
    have d1 : w1.cell? ⟨w.heap.size, 1, none⟩ = some (.int .i64 r.f1) := HX.out.at_ rfl
    have d2 : w1.cell? ⟨w.heap.size, 2, none⟩ = some (.int .i64 r.f2) := HX.out.at_ rfl
    have d3 : w1.cell? ⟨w.heap.size, 3, none⟩ = some (.int .i64 r.f3) := HX.out.at_ rfl
    have d4 : w1.cell? ⟨w.heap.size, 4, none⟩ = some (.int .i64 r.f4) := HX.out.at_ rfl
    have d5 : w1.cell? ⟨w.heap.size, 5, none⟩ = some (.int .i64 r.f5) := HX.out.at_ rfl
    have d6 : w1.cell? ⟨w.heap.size, 6, none⟩ = some (.int .i64 r.f6) := HX.out.at_ rfl
    have d7 : w1.cell? ⟨w.heap.size, 7, none⟩ = some (.int .i64 r.f7) := HX.out.at_ rfl
    have hlx := HX.out.lt
    go_wp2_with fail
    refine Calls.mono (C0.out _ (HR.out.new HB1.out)) ?_
    rintro e w2 ⟨rfl, hb2⟩
    have HO2 := Lib.hid (own_newer HO1.out hb2)
    replace HX := Lib.hid (HX.out.new hb2)
    have HB2 := Lib.hid (below_trans HB1.out hb2 (Nat.le_refl _))
    have HS2 := Lib.hid HB2.out.size
    clear hb2 d0 d1 d2 d3 d4 d5 d6 d7
    have d0 : w2.cell? ⟨w.heap.size, 0, none⟩ = some (.int .i64 r.f0) := HX.out.at_ rfl
    have d1 : w2.cell? ⟨w.heap.size, 1, none⟩ = some (.int .i64 r.f1) := HX.out.at_ rfl
    have d2 : w2.cell? ⟨w.heap.size, 2, none⟩ = some (.int .i64 r.f2) := HX.out.at_ rfl
    have d3 : w2.cell? ⟨w.heap.size, 3, none⟩ = some (.int .i64 r.f3) := HX.out.at_ rfl
    have d4 : w2.cell? ⟨w.heap.size, 4, none⟩ = some (.int .i64 r.f4) := HX.out.at_ rfl
    have d5 : w2.cell? ⟨w.heap.size, 5, none⟩ = some (.int .i64 r.f5) := HX.out.at_ rfl
    have d6 : w2.cell? ⟨w.heap.size, 6, none⟩ = some (.int .i64 r.f6) := HX.out.at_ rfl
    have d7 : w2.cell? ⟨w.heap.size, 7, none⟩ = some (.int .i64 r.f7) := HX.out.at_ rfl
    have hlx2 := HX.out.lt
    go_wp2_with (at_builtin; refine wp_app_lit rfl _ _ _ rfl w.heap.size 28 (.agg #[.int .i64 0, .int .i64 0, .int .i64 0, .int .i64 0, .int .i64 0, .int .i64 0, .int .i64 0, .int .i64 0]) 8 64 Try.underlying40 infoRule rfl (by decide) _ _ _ rfl HO2.out #[.int .i64 r.f0, .int .i64 r.f1, .int .i64 r.f2, .int .i64 r.f3, .int .i64 r.f4, .int .i64 r.f5, .int .i64 r.f6, .int .i64 r.f7] 1 1 _ rfl (by simp) rfl (onesRule r) (by unfold maxLen; omega) (by omega) (by have := HS2.out; omega) ?_; intro v1 w4 ho4 hb4)
    have HO4 := Lib.hid ho4
    have HB4 := Lib.hid (HB2.out.trans hb4)
    clear ho4 hb4
    obtain ⟨A', c', hv, hF⟩ := fr_of_own HO4.out
    subst hv
    have HF := Lib.hid hF
    clear hF
    go_wp2_with fail
    go_ret2
    exact ⟨A', c', by first | (rw [List.length_append, HL.out]; rfl) | (rw [HL.out]; rfl) | (simp only [List.length_append, HL.out, List.length_singleton]; rfl), by first | (rw [List.length_append, HL.out]; simpa [cRule, List.flatMap_append, TRule.cells] using HF.out) | (rw [HL.out]; exact HF.out) | (rw [HL.out]; simpa [cRule, List.flatMap_append, TRule.cells] using HF.out), HB4.out⟩

set_option maxHeartbeats 8000000 in
theorem spec_AddRule (l : List TRule) (A : Option Addr) (n c lo hi : Nat) (r : TRule) (w : World) (hn : n ≤ 1048576) (hr : Rd w lo hi 8 A n (cRule l)) (H : Hid (cRuleOk l)) (Hr : Hid (TRule.fit r)) :
    Calls Try.prog 192 #[.slice A n c, vRule r] w (MakesV 28 8 (mRAdd l r).length (cRule (mRAdd l r)) (.bool (mCan l r)) w) := by
  have HL := Lib.hid (rd_len TRule.len hr (by decide))
  have C0 := fun W (hr : Rd W lo hi 8 A n (cRule l)) => spec_CanAddRule l A n c lo hi r W hn hr H Hr
  have HR := Lib.hid hr
  have HX0 := Lib.hid (box_new w 28 #[.int .i64 r.f0, .int .i64 r.f1, .int .i64 r.f2, .int .i64 r.f3, .int .i64 r.f4, .int .i64 r.f5, .int .i64 r.f6, .int .i64 r.f7])
  have HO : Hid (((w.alloc (.cells #[.int .i64 r.f0, .int .i64 r.f1, .int .i64 r.f2, .int .i64 r.f3, .int .i64 r.f4, .int .i64 r.f5, .int .i64 r.f6, .int .i64 r.f7] 28)).alloc (.cells #[] 28)).ownsRow w.heap.size 28 8 (.slice (some ⟨w.heap.size + 1, 0, none⟩) 0 0) 0 []) := Lib.hid (by simpa using World.ownsRow_lit (base := w.heap.size) (e := 28) (size := 8) (w.alloc (.cells #[.int .i64 r.f0, .int .i64 r.f1, .int .i64 r.f2, .int .i64 r.f3, .int .i64 r.f4, .int .i64 r.f5, .int .i64 r.f6, .int .i64 r.f7] 28)) #[] 0 (by simp) (by unfold maxLen; omega) rfl)
  clear hr
  have Hno := mRAdd_no (l := l) (r := r)
  have Hyes := mRAdd_yes (l := l) (r := r)
  generalize mCan l r = b0 at C0 Hno Hyes ⊢
  replace C0 := Lib.hid C0
  cases b0
  · rw [Hno rfl]
    clear Hno Hyes
    go_enter Try.func192, Try.ntmps192
    go_wp2_with (at_builtin; refine wp_app rfl _ _ _ rfl w.heap.size 28 (.agg #[.int .i64 0, .int .i64 0, .int .i64 0, .int .i64 0, .int .i64 0, .int .i64 0, .int .i64 0, .int .i64 0]) 8 64 Try.underlying40 infoRule rfl (by decide) _ _ _ rfl HO.out lo hi A n c (cRule l) rfl ((HR.out.alloc _).alloc _) (ocRule l) (by unfold maxLen; omega) (by omega) (by simp <;> omega) ?_; intro v w1 ho1 hb1 hg1 ho2; (have HX := Lib.hid ((HX0.out.alloc_ (.cells #[] 28)).grown hg1 (by simp))); (have hlx := HX.out.lt); (have d0 : w1.cell? ⟨w.heap.size, 0, none⟩ = some (.int .i64 r.f0) := HX.out.at_ rfl); (have d1 : w1.cell? ⟨w.heap.size, 1, none⟩ = some (.int .i64 r.f1) := HX.out.at_ rfl); (have d2 : w1.cell? ⟨w.heap.size, 2, none⟩ = some (.int .i64 r.f2) := HX.out.at_ rfl); (have d3 : w1.cell? ⟨w.heap.size, 3, none⟩ = some (.int .i64 r.f3) := HX.out.at_ rfl); (have d4 : w1.cell? ⟨w.heap.size, 4, none⟩ = some (.int .i64 r.f4) := HX.out.at_ rfl); (have d5 : w1.cell? ⟨w.heap.size, 5, none⟩ = some (.int .i64 r.f5) := HX.out.at_ rfl); (have d6 : w1.cell? ⟨w.heap.size, 6, none⟩ = some (.int .i64 r.f6) := HX.out.at_ rfl); (have d7 : w1.cell? ⟨w.heap.size, 7, none⟩ = some (.int .i64 r.f7) := HX.out.at_ rfl))
    have HO1 := Lib.hid (show w1.ownsRow w.heap.size 28 8 v n (cRule l) by simpa using ho1)
    have HB1 := Lib.hid (((((Below.refl w.heap.size w).alloc (Nat.le_refl _) _).alloc (by simp) _)).trans hb1)
    clear ho1 hb1 hg1 ho2
    have d0 : w1.cell? ⟨w.heap.size, 0, none⟩ = some (.int .i64 r.f0) := HX.out.at_ rfl
    have d1 : w1.cell? ⟨w.heap.size, 1, none⟩ = some (.int .i64 r.f1) := HX.out.at_ rfl
    have d2 : w1.cell? ⟨w.heap.size, 2, none⟩ = some (.int .i64 r.f2) := HX.out.at_ rfl
    have d3 : w1.cell? ⟨w.heap.size, 3, none⟩ = some (.int .i64 r.f3) := HX.out.at_ rfl
    have d4 : w1.cell? ⟨w.heap.size, 4, none⟩ = some (.int .i64 r.f4) := HX.out.at_ rfl
    have d5 : w1.cell? ⟨w.heap.size, 5, none⟩ = some (.int .i64 r.f5) := HX.out.at_ rfl
    have d6 : w1.cell? ⟨w.heap.size, 6, none⟩ = some (.int .i64 r.f6) := HX.out.at_ rfl
    have d7 : w1.cell? ⟨w.heap.size, 7, none⟩ = some (.int .i64 r.f7) := HX.out.at_ rfl
    have hlx := HX.out.lt
    go_wp2_with fail
    refine Calls.mono (C0.out _ (HR.out.new HB1.out)) ?_
    rintro e w2 ⟨rfl, hb2⟩
    have HO2 := Lib.hid (own_newer HO1.out hb2)
    replace HX := Lib.hid (HX.out.new hb2)
    have HB2 := Lib.hid (below_trans HB1.out hb2 (Nat.le_refl _))
    have HS2 := Lib.hid HB2.out.size
    clear hb2 d0 d1 d2 d3 d4 d5 d6 d7
    obtain ⟨A', c', hv, hF⟩ := fr_of_own HO2.out
    subst hv
    have HF := Lib.hid hF
    clear hF
    go_wp2_with fail
    go_ret2
    exact ⟨A', c', by first | (rw [List.length_append, HL.out]; rfl) | (rw [HL.out]; rfl) | (simp only [List.length_append, HL.out, List.length_singleton]; rfl), by first | (rw [List.length_append, HL.out]; simpa [cRule, List.flatMap_append, TRule.cells] using HF.out) | (rw [HL.out]; exact HF.out) | (rw [HL.out]; simpa [cRule, List.flatMap_append, TRule.cells] using HF.out), HB2.out⟩
  · rw [Hyes rfl]
    clear Hno Hyes
    go_enter Try.func192, Try.ntmps192
    go_wp2_with (at_builtin; refine wp_app rfl _ _ _ rfl w.heap.size 28 (.agg #[.int .i64 0, .int .i64 0, .int .i64 0, .int .i64 0, .int .i64 0, .int .i64 0, .int .i64 0, .int .i64 0]) 8 64 Try.underlying40 infoRule rfl (by decide) _ _ _ rfl HO.out lo hi A n c (cRule l) rfl ((HR.out.alloc _).alloc _) (ocRule l) (by unfold maxLen; omega) (by omega) (by simp <;> omega) ?_; intro v w1 ho1 hb1 hg1 ho2; (have HX := Lib.hid ((HX0.out.alloc_ (.cells #[] 28)).grown hg1 (by simp))); (have hlx := HX.out.lt); (have d0 : w1.cell? ⟨w.heap.size, 0, none⟩ = some (.int .i64 r.f0) := HX.out.at_ rfl); (have d1 : w1.cell? ⟨w.heap.size, 1, none⟩ = some (.int .i64 r.f1) := HX.out.at_ rfl); (have d2 : w1.cell? ⟨w.heap.size, 2, none⟩ = some (.int .i64 r.f2) := HX.out.at_ rfl); (have d3 : w1.cell? ⟨w.heap.size, 3, none⟩ = some (.int .i64 r.f3) := HX.out.at_ rfl); (have d4 : w1.cell? ⟨w.heap.size, 4, none⟩ = some (.int .i64 r.f4) := HX.out.at_ rfl); (have d5 : w1.cell? ⟨w.heap.size, 5, none⟩ = some (.int .i64 r.f5) := HX.out.at_ rfl); (have d6 : w1.cell? ⟨w.heap.size, 6, none⟩ = some (.int .i64 r.f6) := HX.out.at_ rfl); (have d7 : w1.cell? ⟨w.heap.size, 7, none⟩ = some (.int .i64 r.f7) := HX.out.at_ rfl))
    have HO1 := Lib.hid (show w1.ownsRow w.heap.size 28 8 v n (cRule l) by simpa using ho1)
    have HB1 := Lib.hid (((((Below.refl w.heap.size w).alloc (Nat.le_refl _) _).alloc (by simp) _)).trans hb1)
    clear ho1 hb1 hg1 ho2
    have d0 : w1.cell? ⟨w.heap.size, 0, none⟩ = some (.int .i64 r.f0) := HX.out.at_ rfl
    have d1 : w1.cell? ⟨w.heap.size, 1, none⟩ = some (.int .i64 r.f1) := HX.out.at_ rfl
    have d2 : w1.cell? ⟨w.heap.size, 2, none⟩ = some (.int .i64 r.f2) := HX.out.at_ rfl
    have d3 : w1.cell? ⟨w.heap.size, 3, none⟩ = some (.int .i64 r.f3) := HX.out.at_ rfl
    have d4 : w1.cell? ⟨w.heap.size, 4, none⟩ = some (.int .i64 r.f4) := HX.out.at_ rfl
    have d5 : w1.cell? ⟨w.heap.size, 5, none⟩ = some (.int .i64 r.f5) := HX.out.at_ rfl
    have d6 : w1.cell? ⟨w.heap.size, 6, none⟩ = some (.int .i64 r.f6) := HX.out.at_ rfl
    have d7 : w1.cell? ⟨w.heap.size, 7, none⟩ = some (.int .i64 r.f7) := HX.out.at_ rfl
    have hlx := HX.out.lt
    go_wp2_with fail
    refine Calls.mono (C0.out _ (HR.out.new HB1.out)) ?_
    rintro e w2 ⟨rfl, hb2⟩
    have HO2 := Lib.hid (own_newer HO1.out hb2)
    replace HX := Lib.hid (HX.out.new hb2)
    have HB2 := Lib.hid (below_trans HB1.out hb2 (Nat.le_refl _))
    have HS2 := Lib.hid HB2.out.size
    clear hb2 d0 d1 d2 d3 d4 d5 d6 d7
    have d0 : w2.cell? ⟨w.heap.size, 0, none⟩ = some (.int .i64 r.f0) := HX.out.at_ rfl
    have d1 : w2.cell? ⟨w.heap.size, 1, none⟩ = some (.int .i64 r.f1) := HX.out.at_ rfl
    have d2 : w2.cell? ⟨w.heap.size, 2, none⟩ = some (.int .i64 r.f2) := HX.out.at_ rfl
    have d3 : w2.cell? ⟨w.heap.size, 3, none⟩ = some (.int .i64 r.f3) := HX.out.at_ rfl
    have d4 : w2.cell? ⟨w.heap.size, 4, none⟩ = some (.int .i64 r.f4) := HX.out.at_ rfl
    have d5 : w2.cell? ⟨w.heap.size, 5, none⟩ = some (.int .i64 r.f5) := HX.out.at_ rfl
    have d6 : w2.cell? ⟨w.heap.size, 6, none⟩ = some (.int .i64 r.f6) := HX.out.at_ rfl
    have d7 : w2.cell? ⟨w.heap.size, 7, none⟩ = some (.int .i64 r.f7) := HX.out.at_ rfl
    have hlx2 := HX.out.lt
    go_wp2_with (at_builtin; refine wp_app_lit rfl _ _ _ rfl w.heap.size 28 (.agg #[.int .i64 0, .int .i64 0, .int .i64 0, .int .i64 0, .int .i64 0, .int .i64 0, .int .i64 0, .int .i64 0]) 8 64 Try.underlying40 infoRule rfl (by decide) _ _ _ rfl HO2.out #[.int .i64 r.f0, .int .i64 r.f1, .int .i64 r.f2, .int .i64 r.f3, .int .i64 r.f4, .int .i64 r.f5, .int .i64 r.f6, .int .i64 r.f7] 1 1 _ rfl (by simp) rfl (onesRule r) (by unfold maxLen; omega) (by omega) (by have := HS2.out; omega) ?_; intro v1 w4 ho4 hb4)
    have HO4 := Lib.hid ho4
    have HB4 := Lib.hid (HB2.out.trans hb4)
    clear ho4 hb4
    obtain ⟨A', c', hv, hF⟩ := fr_of_own HO4.out
    subst hv
    have HF := Lib.hid hF
    clear hF
    go_wp2_with fail
    go_ret2
    exact ⟨A', c', by first | (rw [List.length_append, HL.out]; rfl) | (rw [HL.out]; rfl) | (simp only [List.length_append, HL.out, List.length_singleton]; rfl), by first | (rw [List.length_append, HL.out]; simpa [cRule, List.flatMap_append, TRule.cells] using HF.out) | (rw [HL.out]; exact HF.out) | (rw [HL.out]; simpa [cRule, List.flatMap_append, TRule.cells] using HF.out), HB4.out⟩
end Go.Proofs.Ytlnmgfbfpjfddaa
