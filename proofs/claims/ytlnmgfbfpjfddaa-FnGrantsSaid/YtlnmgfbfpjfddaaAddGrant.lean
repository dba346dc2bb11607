/- AddGrant, of the program and of the model, put a grant behind a list, if it is valid, new and there is room. -/
import Derived.Test.YtlnmgfbfpjfddaaEGrant
import Derived.Test.YtlnmgfbfpjfddaaGB
import Derived.Test.YtlnmgfbfpjfddaaGrant
namespace Go.Proofs.Ytlnmgfbfpjfddaa
open Go Go.ChangeShapes Go.WideShapes Go.ChangeAt Go.RowKit Go.Lib
set_option linter.unusedVariables false
set_option linter.unusedSimpArgs false
set_option maxRecDepth 100000
def mAddOk (l : List TGrant) (g : TGrant) : Bool := mIsGrant g && !(l.any fun x => decide (g = x)) && decide (l.length < 16)
def mAddL (l : List TGrant) (g : TGrant) : List TGrant := if mAddOk l g = true then l ++ [g] else l
theorem mAddL_len (l : List TGrant) (g : TGrant) : (mAddL l g).length ≤ l.length + 1 := by unfold mAddL; split <;> simp
theorem mAdd_no {l : List TGrant} {g : TGrant} (h : mAddOk l g = false) : mAddL l g = l := by unfold mAddL; rw [h]; rfl
theorem mAdd_yes {l : List TGrant} {g : TGrant} (h : mAddOk l g = true) : mAddL l g = l ++ [g] := by unfold mAddL; rw [h]; rfl
set_option maxHeartbeats 8000000 in
theorem impl_AddGrant (l : List TGrant) (A : Option Addr) (n c lo hi : Nat) (g : TGrant) (w : World) (hn : n ≤ 1048576) (hr : Rd w lo hi 7 A n (cGrant l)) (H : Hid (cGrantOk l)) :
    Calls Try.prog 30 #[.slice A n c, vGrant g] w (MakesV 50 7 (mAddL l g).length (cGrant (mAddL l g)) (.bool (mAddOk l g)) w) := by
  have HL := Lib.hid (rd_len TGrant.len hr (by decide))
  have HR := Lib.hid hr
  clear hr
  by_cases h0 : mIsGrant g = true
  · by_cases h1 : (l.any fun x => decide (g = x)) = true
    · have HE := Lib.hid (show mAddOk l g = false by simp only [mAddOk, h0, h1]; rfl)
      have H1 := Lib.hid h1
      clear h1
      have HV := Lib.hid (mAdd_no HE.out)
      rw [HV.out]
      go_enter Try.func30, Try.ntmps30
      go_wp2_with fail
      refine (clone_Grant l A n c lo hi _ hn (HR.out.alloc _)).mono ?_
      rintro e w1 ⟨v, rfl, ho1, hb1⟩
      have HO1 := Lib.hid (own_base (base' := w.heap.size) ho1 (by simp))
      obtain ⟨hc1, hf1⟩ := bcell hb1
      have HB1 := Lib.hid (below_trans ((Below.refl _ _).alloc (Nat.le_refl _) _) hb1 (by simp))
      have hs1 := hb1.size
      simp at hs1
      have hz0 : w.heap.size < w1.heap.size := by omega
      clear ho1 hb1
      go_wp2_with fail
      refine (impl_IsGrant g _).mono ?_
      rintro e w2 ⟨rfl, hb2⟩
      have HO2 := Lib.hid (own_newer HO1.out hb2)
      obtain ⟨hc2, hf2⟩ := bcell hb2
      have HB2 := Lib.hid (below_trans HB1.out hb2 (Nat.le_refl _))
      clear hb2
      go_wp2_with fail
      refine (contains_Grant g l A n c lo hi _ (by omega) (HR.out.new HB2.out)).mono ?_
      rw [H1.out]
      rintro e w3 ⟨rfl, hb3⟩
      have HO3 := Lib.hid (own_newer HO2.out hb3)
      have HB3 := Lib.hid (below_trans HB2.out hb3 (Nat.le_refl _))
      clear hb3
      obtain ⟨A', c', hv, hF⟩ := fr_of_own HO3.out
      subst hv
      have HF := Lib.hid hF
      clear hF HO1 HO2 HO3
      go_wp2_with fail
      go_ret2
      exact ⟨A', c', by rw [HE.out, HL.out]; rfl, by rw [HL.out]; exact HF.out, HB3.out⟩
    · have h1 : (l.any fun x => decide (g = x)) = false := by simpa only [Bool.not_eq_true] using h1
      by_cases h2 : 16 ≤ n
      · have HE := Lib.hid (show mAddOk l g = false by simp only [mAddOk, h0, h1]; simp; have := HL.out; omega)
        have H1 := Lib.hid h1
        clear h1
        have HV := Lib.hid (mAdd_no HE.out)
        rw [HV.out]
        go_enter Try.func30, Try.ntmps30
        go_wp2_with fail
        refine (clone_Grant l A n c lo hi _ hn (HR.out.alloc _)).mono ?_
        rintro e w1 ⟨v, rfl, ho1, hb1⟩
        have HO1 := Lib.hid (own_base (base' := w.heap.size) ho1 (by simp))
        obtain ⟨hc1, hf1⟩ := bcell hb1
        have HB1 := Lib.hid (below_trans ((Below.refl _ _).alloc (Nat.le_refl _) _) hb1 (by simp))
        have hs1 := hb1.size
        simp at hs1
        have hz0 : w.heap.size < w1.heap.size := by omega
        clear ho1 hb1
        go_wp2_with fail
        refine (impl_IsGrant g _).mono ?_
        rintro e w2 ⟨rfl, hb2⟩
        have HO2 := Lib.hid (own_newer HO1.out hb2)
        obtain ⟨hc2, hf2⟩ := bcell hb2
        have HB2 := Lib.hid (below_trans HB1.out hb2 (Nat.le_refl _))
        clear hb2
        go_wp2_with fail
        refine (contains_Grant g l A n c lo hi _ (by omega) (HR.out.new HB2.out)).mono ?_
        rw [H1.out]
        rintro e w3 ⟨rfl, hb3⟩
        have HO3 := Lib.hid (own_newer HO2.out hb3)
        have HB3 := Lib.hid (below_trans HB2.out hb3 (Nat.le_refl _))
        clear hb3
        obtain ⟨A', c', hv, hF⟩ := fr_of_own HO3.out
        subst hv
        have HF := Lib.hid hF
        clear hF HO1 HO2 HO3
        go_wp2_with fail
        go_ret2
        exact ⟨A', c', by rw [HE.out, HL.out]; rfl, by rw [HL.out]; exact HF.out, HB3.out⟩
      · have HE := Lib.hid (show mAddOk l g = true by simp only [mAddOk, h0, h1]; simp; have := HL.out; omega)
        have H1 := Lib.hid h1
        clear h1
        have HV := Lib.hid (mAdd_yes HE.out)
        rw [HV.out]
        go_enter Try.func30, Try.ntmps30
        go_wp2_with fail
        refine (clone_Grant l A n c lo hi _ hn (HR.out.alloc _)).mono ?_
        rintro e w1 ⟨v, rfl, ho1, hb1⟩
        have HO1 := Lib.hid (own_base (base' := w.heap.size) ho1 (by simp))
        obtain ⟨hc1, hf1⟩ := bcell hb1
        have HB1 := Lib.hid (below_trans ((Below.refl _ _).alloc (Nat.le_refl _) _) hb1 (by simp))
        have hs1 := hb1.size
        simp at hs1
        have hz0 : w.heap.size < w1.heap.size := by omega
        clear ho1 hb1
        go_wp2_with fail
        refine (impl_IsGrant g _).mono ?_
        rintro e w2 ⟨rfl, hb2⟩
        have HO2 := Lib.hid (own_newer HO1.out hb2)
        obtain ⟨hc2, hf2⟩ := bcell hb2
        have HB2 := Lib.hid (below_trans HB1.out hb2 (Nat.le_refl _))
        have hs2 := hb2.size
        have hz2 : w.heap.size < w2.heap.size := by omega
        clear hb2
        go_wp2_with fail
        refine (contains_Grant g l A n c lo hi _ (by omega) (HR.out.new HB2.out)).mono ?_
        rw [H1.out]
        rintro e w3 ⟨rfl, hb3⟩
        have HO3 := Lib.hid (own_newer HO2.out hb3)
        obtain ⟨hc3, hf3⟩ := bcell hb3
        have HB3 := Lib.hid (below_trans HB2.out hb3 (Nat.le_refl _))
        have HS3 := Lib.hid HB3.out.size
        clear hb3
        go_wp2_with (at_builtin; refine wp_app_lit rfl _ _ _ rfl w.heap.size 50 (.agg #[.int .i64 0, .int .i64 0, .int .i64 0, .int .i64 0, .int .i64 0, .int .i64 0, .bool false]) 7 56 Try.underlying45 infoGrant rfl (by decide) _ _ _ rfl HO3.out #[.int .i64 g.f0, .int .i64 g.f1, .int .i64 g.f2, .int .i64 g.f3, .int .i64 g.f4, .int .i64 g.f5, .bool g.f6] 1 1 _ rfl (by simp) rfl (onesGrant g) (by unfold maxLen; omega) (by omega) (by have := HS3.out; omega) ?_; intro v1 w4 ho4 hb4)
        have HO4 := Lib.hid ho4
        have HB4 := Lib.hid (HB3.out.trans hb4)
        clear ho4 hb4
        obtain ⟨A', c', hv, hF⟩ := fr_of_own HO4.out
        subst hv
        have HF := Lib.hid hF
        clear hF HO1 HO2 HO3 HO4
        go_wp2_with fail
        go_ret2
        exact ⟨A', c', by first | (rw [HE.out, List.length_append, HL.out]; rfl) | (rw [HE.out, HL.out]; rfl) | (simp only [List.length_append, HL.out, List.length_singleton, HE.out]; rfl), by first | (rw [List.length_append, HL.out]; simpa [cGrant, List.flatMap_append, TGrant.cells] using HF.out) | (rw [HL.out]; simpa [cGrant, List.flatMap_append, TGrant.cells] using HF.out), HB4.out⟩
  · have h0 : mIsGrant g = false := by simpa using h0
    have HE := Lib.hid (show mAddOk l g = false by simp only [mAddOk, h0]; rfl)
    have HV := Lib.hid (mAdd_no HE.out)
    rw [HV.out]
    go_enter Try.func30, Try.ntmps30
    go_wp2_with fail
    refine (clone_Grant l A n c lo hi _ hn (HR.out.alloc _)).mono ?_
    rintro e w1 ⟨v, rfl, ho1, hb1⟩
    have HO1 := Lib.hid (own_base (base' := w.heap.size) ho1 (by simp))
    obtain ⟨hc1, hf1⟩ := bcell hb1
    have HB1 := Lib.hid (below_trans ((Below.refl _ _).alloc (Nat.le_refl _) _) hb1 (by simp))
    have hs1 := hb1.size
    simp at hs1
    have hz0 : w.heap.size < w1.heap.size := by omega
    clear ho1 hb1
    go_wp2_with fail
    refine (impl_IsGrant g _).mono ?_
    rintro e w2 ⟨rfl, hb2⟩
    have HO2 := Lib.hid (own_newer HO1.out hb2)
    have HB2 := Lib.hid (below_trans HB1.out hb2 (Nat.le_refl _))
    clear hb2
    obtain ⟨A', c', hv, hF⟩ := fr_of_own HO2.out
    subst hv
    have HF := Lib.hid hF
    clear hF HO1 HO2
    go_wp2_with fail
    go_ret2
    exact ⟨A', c', by rw [HE.out, HL.out]; rfl, by rw [HL.out]; exact HF.out, HB2.out⟩
end Go.Proofs.Ytlnmgfbfpjfddaa
