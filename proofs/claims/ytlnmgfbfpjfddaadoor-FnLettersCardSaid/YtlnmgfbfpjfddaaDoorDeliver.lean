/- Deliver, of the program and of the model. -/
import Derived.Test.YtlnmgfbfpjfddaaDoorGenuine
import Derived.Test.YtlnmgfbfpjfddaaDoorLtB
import Derived.Test.YtlnmgfbfpjfddaaDoorApp
namespace Go.Proofs.YtlnmgfbfpjfddaaDoor
open Go Go.ChangeShapes Go.WideShapes Go.ChangeAt Go.RowKit Go.Lib
set_option linter.unusedVariables false
set_option linter.unusedSimpArgs false
set_option maxRecDepth 100000
def mDelOk (k : Int) (l : List TLetter) (x : TLetter) : Bool := mGen k x && decide (l.length < 20)
def mDel (k : Int) (l : List TLetter) (x : TLetter) : List TLetter := if mDelOk k l x = true then l ++ [x] else l
theorem mDel_len (k : Int) (l : List TLetter) (x : TLetter) : (mDel k l x).length ≤ l.length + 1 := by unfold mDel; split <;> simp
theorem mDel_no {k : Int} {l : List TLetter} {x : TLetter} (h : mDelOk k l x = false) : mDel k l x = l := by unfold mDel; rw [h]; rfl
theorem mDel_yes {k : Int} {l : List TLetter} {x : TLetter} (h : mDelOk k l x = true) : mDel k l x = l ++ [x] := by unfold mDel; rw [h]; rfl

set_option maxHeartbeats 8000000 in
theorem impl_Deliver (k : Int) (l : List TLetter) (A : Option Addr) (n c lo hi : Nat) (x : TLetter) (w : World) (hT : Pow10 w) (wk : (Lit.int .i64 k).wf = true) (hn : n ≤ 1048576) (hr : Rd w lo hi 4 A n (cLetter l)) (H : Hid (cLetterOk l)) (Hx : Hid (TLetter.fit x)) :
    Calls Tryd.prog 35 #[.int .i64 k, .slice A n c, vLetter x] w (Makes 62 4 (mDel k l x).length (cLetter (mDel k l x)) w) := by
  have HL := Lib.hid (rd_len TLetter.len hr (by decide))
  have C0 := fun W (hT : Pow10 W) => impl_IsGenuine k x W hT wk Hx
  have HR := Lib.hid hr
  have HX0 := Lib.hid (box_new w 62 #[.int .i64 x.f0, .int .i64 x.f1, .int .i64 x.f2, .int .i64 x.f3])
  clear hr
  have Hno := mDel_no (k := k) (l := l) (x := x)
  have Hyes := mDel_yes (k := k) (l := l) (x := x)
  have hok : mDelOk k l x = (mGen k x && decide (l.length < 20)) := rfl
  rw [hok] at Hno Hyes
  clear hok
  generalize mGen k x = b0 at C0 Hno Hyes
  replace C0 := Lib.hid C0
  cases b0
  · rw [Hno rfl]
    clear Hno Hyes
    go_enter Tryd.func35, Tryd.ntmps35
    go_wp2_with fail
    refine (clone_Letter l A n c lo hi _ hn (HR.out.alloc _)).mono ?_
    rintro e w1 ⟨v, rfl, ho1, hb1⟩
    have HO1 := Lib.hid (own_base (base' := w.heap.size) ho1 (by simp))
    have HX := Lib.hid (HX0.out.new hb1)
    have HB1 := Lib.hid (below_trans ((Below.refl _ _).alloc (Nat.le_refl _) _) hb1 (by simp))
    clear ho1 hb1
    have d0 : w1.cell? ⟨w.heap.size, 0, none⟩ = some (.int .i64 x.f0) := HX.out.at_ rfl
    have d1 : w1.cell? ⟨w.heap.size, 1, none⟩ = some (.int .i64 x.f1) := HX.out.at_ rfl
    have d2 : w1.cell? ⟨w.heap.size, 2, none⟩ = some (.int .i64 x.f2) := HX.out.at_ rfl
    have d3 : w1.cell? ⟨w.heap.size, 3, none⟩ = some (.int .i64 x.f3) := HX.out.at_ rfl
    have hlx := HX.out.lt
    go_wp2_with fail
    refine Calls.mono (C0.out _ (pow10_below hT HB1.out)) ?_
    rintro e w2 ⟨rfl, hb2⟩
    have HO2 := Lib.hid (own_newer HO1.out hb2)
    replace HX := Lib.hid (HX.out.new hb2)
    have HB2 := Lib.hid (below_trans HB1.out hb2 (Nat.le_refl _))
    have HS2 := Lib.hid HB2.out.size
    clear hb2 d0 d1 d2 d3
    obtain ⟨A', c', hv, hF⟩ := fr_of_own HO2.out
    subst hv
    have HF := Lib.hid hF
    clear hF
    go_wp2_with fail
    go_ret
    exact ⟨A', c', by first | (rw [List.length_append, HL.out]; rfl) | (rw [HL.out]; rfl) | (simp only [List.length_append, HL.out, List.length_singleton]; rfl), by first | (rw [List.length_append, HL.out]; simpa [cLetter, List.flatMap_append, TLetter.cells] using HF.out) | (rw [HL.out]; exact HF.out) | (rw [HL.out]; simpa [cLetter, List.flatMap_append, TLetter.cells] using HF.out), HB2.out⟩
  · by_cases h20 : n < 20
    · rw [Hyes (by have := HL.out; simp; omega)]
      clear Hno Hyes
      have g20 : decide ((20 : Int) ≤ (n : Nat)) = false := by simp; omega
      have g20' : decide ((n : Int) < 20) = true := by simp; omega
      go_enter Tryd.func35, Tryd.ntmps35
      go_wp2_with fail
      refine (clone_Letter l A n c lo hi _ hn (HR.out.alloc _)).mono ?_
      rintro e w1 ⟨v, rfl, ho1, hb1⟩
      have HO1 := Lib.hid (own_base (base' := w.heap.size) ho1 (by simp))
      have HX := Lib.hid (HX0.out.new hb1)
      have HB1 := Lib.hid (below_trans ((Below.refl _ _).alloc (Nat.le_refl _) _) hb1 (by simp))
      clear ho1 hb1
      have d0 : w1.cell? ⟨w.heap.size, 0, none⟩ = some (.int .i64 x.f0) := HX.out.at_ rfl
      have d1 : w1.cell? ⟨w.heap.size, 1, none⟩ = some (.int .i64 x.f1) := HX.out.at_ rfl
      have d2 : w1.cell? ⟨w.heap.size, 2, none⟩ = some (.int .i64 x.f2) := HX.out.at_ rfl
      have d3 : w1.cell? ⟨w.heap.size, 3, none⟩ = some (.int .i64 x.f3) := HX.out.at_ rfl
      have hlx := HX.out.lt
      go_wp2_with fail
      refine Calls.mono (C0.out _ (pow10_below hT HB1.out)) ?_
      rintro e w2 ⟨rfl, hb2⟩
      have HO2 := Lib.hid (own_newer HO1.out hb2)
      replace HX := Lib.hid (HX.out.new hb2)
      have HB2 := Lib.hid (below_trans HB1.out hb2 (Nat.le_refl _))
      have HS2 := Lib.hid HB2.out.size
      clear hb2 d0 d1 d2 d3
      have d0 : w2.cell? ⟨w.heap.size, 0, none⟩ = some (.int .i64 x.f0) := HX.out.at_ rfl
      have d1 : w2.cell? ⟨w.heap.size, 1, none⟩ = some (.int .i64 x.f1) := HX.out.at_ rfl
      have d2 : w2.cell? ⟨w.heap.size, 2, none⟩ = some (.int .i64 x.f2) := HX.out.at_ rfl
      have d3 : w2.cell? ⟨w.heap.size, 3, none⟩ = some (.int .i64 x.f3) := HX.out.at_ rfl
      have hlx2 := HX.out.lt
      go_wp2_with (at_builtin; refine wp_app_lit rfl _ _ _ rfl w.heap.size 62 (.agg #[.int .i64 0, .int .i64 0, .int .i64 0, .int .i64 0]) 4 32 Tryd.underlying60 infoLetter rfl (by decide) _ _ _ rfl HO2.out #[.int .i64 x.f0, .int .i64 x.f1, .int .i64 x.f2, .int .i64 x.f3] 1 1 _ rfl (by simp) rfl (onesLetter x) (by unfold maxLen; omega) (by omega) (by have := HS2.out; omega) ?_; intro v1 w4 ho4 hb4)
      have HO4 := Lib.hid ho4
      have HB4 := Lib.hid (HB2.out.trans hb4)
      clear ho4 hb4
      obtain ⟨A', c', hv, hF⟩ := fr_of_own HO4.out
      subst hv
      have HF := Lib.hid hF
      clear hF
      go_wp2_with fail
      go_ret
      exact ⟨A', c', by first | (rw [List.length_append, HL.out]; rfl) | (rw [HL.out]; rfl) | (simp only [List.length_append, HL.out, List.length_singleton]; rfl), by first | (rw [List.length_append, HL.out]; simpa [cLetter, List.flatMap_append, TLetter.cells] using HF.out) | (rw [HL.out]; exact HF.out) | (rw [HL.out]; simpa [cLetter, List.flatMap_append, TLetter.cells] using HF.out), HB4.out⟩
    · rw [Hno (by have := HL.out; simp; omega)]
      clear Hno Hyes
      have g20 : decide ((20 : Int) ≤ (n : Nat)) = true := by simp; omega
      have g20' : decide ((n : Int) < 20) = false := by simp; omega
      go_enter Tryd.func35, Tryd.ntmps35
      go_wp2_with fail
      refine (clone_Letter l A n c lo hi _ hn (HR.out.alloc _)).mono ?_
      rintro e w1 ⟨v, rfl, ho1, hb1⟩
      have HO1 := Lib.hid (own_base (base' := w.heap.size) ho1 (by simp))
      have HX := Lib.hid (HX0.out.new hb1)
      have HB1 := Lib.hid (below_trans ((Below.refl _ _).alloc (Nat.le_refl _) _) hb1 (by simp))
      clear ho1 hb1
      have d0 : w1.cell? ⟨w.heap.size, 0, none⟩ = some (.int .i64 x.f0) := HX.out.at_ rfl
      have d1 : w1.cell? ⟨w.heap.size, 1, none⟩ = some (.int .i64 x.f1) := HX.out.at_ rfl
      have d2 : w1.cell? ⟨w.heap.size, 2, none⟩ = some (.int .i64 x.f2) := HX.out.at_ rfl
      have d3 : w1.cell? ⟨w.heap.size, 3, none⟩ = some (.int .i64 x.f3) := HX.out.at_ rfl
      have hlx := HX.out.lt
      go_wp2_with fail
      refine Calls.mono (C0.out _ (pow10_below hT HB1.out)) ?_
      rintro e w2 ⟨rfl, hb2⟩
      have HO2 := Lib.hid (own_newer HO1.out hb2)
      replace HX := Lib.hid (HX.out.new hb2)
      have HB2 := Lib.hid (below_trans HB1.out hb2 (Nat.le_refl _))
      have HS2 := Lib.hid HB2.out.size
      clear hb2 d0 d1 d2 d3
      obtain ⟨A', c', hv, hF⟩ := fr_of_own HO2.out
      subst hv
      have HF := Lib.hid hF
      clear hF
      go_wp2_with fail
      go_ret
      exact ⟨A', c', by first | (rw [List.length_append, HL.out]; rfl) | (rw [HL.out]; rfl) | (simp only [List.length_append, HL.out, List.length_singleton]; rfl), by first | (rw [List.length_append, HL.out]; simpa [cLetter, List.flatMap_append, TLetter.cells] using HF.out) | (rw [HL.out]; exact HF.out) | (rw [HL.out]; simpa [cLetter, List.flatMap_append, TLetter.cells] using HF.out), HB2.out⟩

end Go.Proofs.YtlnmgfbfpjfddaaDoor
