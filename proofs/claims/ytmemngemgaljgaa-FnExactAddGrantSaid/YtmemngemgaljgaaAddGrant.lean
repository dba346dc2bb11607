/- AddGrant, of the program and of the model, put a grant behind a list, if it is valid, new and there is room. -/
import Derived.Test.YtmemngemgaljgaaEGrant
import Derived.Test.YtmemngemgaljgaaGB
import Derived.Test.YtmemngemgaljgaaGrant
namespace Go.Proofs.Ytmemngemgaljgaa
open Go Go.ChangeShapes Go.WideShapes Go.ChangeAt Go.RowKit Go.Lib
set_option linter.unusedVariables false
set_option linter.unusedSimpArgs false
set_option maxRecDepth 100000
def mAddOk (l : List TGrant) (g : TGrant) : Bool := mIsGrant g && !(l.any fun x => decide (g = x)) && decide (l.length < 16)
def mAddL (l : List TGrant) (g : TGrant) : List TGrant := if mAddOk l g = true then l ++ [g] else l
theorem mAddL_len (l : List TGrant) (g : TGrant) : (mAddL l g).length ≤ l.length + 1 := by unfold mAddL; split <;> simp
theorem mAdd_no {l : List TGrant} {g : TGrant} (h : mAddOk l g = false) : mAddL l g = l := by unfold mAddL; rw [h]; rfl
theorem mAdd_yes {l : List TGrant} {g : TGrant} (h : mAddOk l g = true) : mAddL l g = l ++ [g] := by unfold mAddL; rw [h]; rfl
set_option maxHeartbeats 8000000 in
theorem impl_AddGrant (l : List TGrant) (A : Option Addr) (n c lo hi : Nat) (g : TGrant) (w : World) (hn : n ≤ 1048576) (hr : Rd w lo hi 7 A n (cGrant l)) (H : Hid (cGrantOk l)) :
    Calls Try.prog 44 #[.slice A n c, vGrant g] w (MakesV 43 7 (mAddL l g).length (cGrant (mAddL l g)) (.bool (mAddOk l g)) w) := by
  have HL := Lib.hid (rd_len TGrant.len hr (by decide))
  have HR := Lib.hid hr
  clear hr
  by_cases h0 : mIsGrant g = true
  · by_cases h1 : (l.any fun x => decide (g = x)) = true
    · have HE := Lib.hid (show mAddOk l g = false by simp only [mAddOk, h0, h1]; rfl)
      have H1 := Lib.hid h1
      clear h1
      have HV := Lib.hid (mAdd_no HE.out)
      rw [HV.out]
      go_enter Try.func44, Try.ntmps44
      go_wp2_with fail
      refine (clone_Grant l A n c lo hi _ hn (HR.out.alloc _)).mono ?_
      rintro e w1 ⟨v, rfl, ho1, hb1⟩
      have HO1 := Lib.hid (own_base (base' := w.heap.size) ho1 (by simp))
      obtain ⟨hc1, hf1⟩ := bcell hb1
      have HB1 := Lib.hid (below_trans ((Below.refl _ _).alloc (Nat.le_refl _) _) hb1 (by simp))
      have hs1 := hb1.size
      simp at hs1
      have hz0 : w.heap.size < w1.heap.size := by omega
      clear ho1 hb1
      go_wp2_with fail
      refine (impl_IsGrant g _).mono ?_
      rintro e w2 ⟨rfl, hb2⟩
      have HO2 := Lib.hid (own_newer HO1.out hb2)
      obtain ⟨hc2, hf2⟩ := bcell hb2
      have HB2 := Lib.hid (below_trans HB1.out hb2 (Nat.le_refl _))
      clear hb2
      go_wp2_with fail
      refine (contains_Grant g l A n c lo hi _ (by omega) (HR.out.new HB2.out)).mono ?_
      rw [H1.out]
      rintro e w3 ⟨rfl, hb3⟩
      have HO3 := Lib.hid (own_newer HO2.out hb3)
      have HB3 := Lib.hid (below_trans HB2.out hb3 (Nat.le_refl _))
      clear hb3
      obtain ⟨A', c', hv, hF⟩ := fr_of_own HO3.out
      subst hv
      have HF := Lib.hid hF
      clear hF HO1 HO2 HO3
      go_wp2_with fail
      go_ret2
      exact ⟨A', c', by rw [HE.out, HL.out]; rfl, by rw [HL.out]; exact HF.out, HB3.out⟩
    · have h1 : (l.any fun x => decide (g = x)) = false := by simpa only [Bool.not_eq_true] using h1
      by_cases h2 : 16 ≤ n
      · have HE := Lib.hid (show mAddOk l g = false by simp only [mAddOk, h0, h1]; simp; have := HL.out; omega)
        have H1 := Lib.hid h1
        clear h1
        have HV := Lib.hid (mAdd_no HE.out)
        rw [HV.out]
        go_enter Try.func44, Try.ntmps44
        go_wp2_with fail
        refine (clone_Grant l A n c lo hi _ hn (HR.out.alloc _)).mono ?_
        rintro e w1 ⟨v, rfl, ho1, hb1⟩
        have HO1 := Lib.hid (own_base (base' := w.heap.size) ho1 (by simp))
        obtain ⟨hc1, hf1⟩ := bcell hb1
        have HB1 := Lib.hid (below_trans ((Below.refl _ _).alloc (Nat.le_refl _) _) hb1 (by simp))
        have hs1 := hb1.size
        simp at hs1
        have hz0 : w.heap.size < w1.heap.size := by omega
        clear ho1 hb1
        go_wp2_with fail
        refine (impl_IsGrant g _).mono ?_
        rintro e w2 ⟨rfl, hb2⟩
        have HO2 := Lib.hid (own_newer HO1.out hb2)
        obtain ⟨hc2, hf2⟩ := bcell hb2
        have HB2 := Lib.hid (below_trans HB1.out hb2 (Nat.le_refl _))
        clear hb2
        go_wp2_with fail
        refine (contains_Grant g l A n c lo hi _ (by omega) (HR.out.new HB2.out)).mono ?_
        rw [H1.out]
        rintro e w3 ⟨rfl, hb3⟩
        have HO3 := Lib.hid (own_newer HO2.out hb3)
        have HB3 := Lib.hid (below_trans HB2.out hb3 (Nat.le_refl _))
        clear hb3
        obtain ⟨A', c', hv, hF⟩ := fr_of_own HO3.out
        subst hv
        have HF := Lib.hid hF
        clear hF HO1 HO2 HO3
        go_wp2_with fail
        go_ret2
        exact ⟨A', c', by rw [HE.out, HL.out]; rfl, by rw [HL.out]; exact HF.out, HB3.out⟩
      · have HE := Lib.hid (show mAddOk l g = true by simp only [mAddOk, h0, h1]; simp; have := HL.out; omega)
        have H1 := Lib.hid h1
        clear h1
        have HV := Lib.hid (mAdd_yes HE.out)
        rw [HV.out]
        go_enter Try.func44, Try.ntmps44
        go_wp2_with fail
        refine (clone_Grant l A n c lo hi _ hn (HR.out.alloc _)).mono ?_
        rintro e w1 ⟨v, rfl, ho1, hb1⟩
        have HO1 := Lib.hid (own_base (base' := w.heap.size) ho1 (by simp))
        obtain ⟨hc1, hf1⟩ := bcell hb1
        have HB1 := Lib.hid (below_trans ((Below.refl _ _).alloc (Nat.le_refl _) _) hb1 (by simp))
        have hs1 := hb1.size
        simp at hs1
        have hz0 : w.heap.size < w1.heap.size := by omega
        clear ho1 hb1
        go_wp2_with fail
        refine (impl_IsGrant g _).mono ?_
        rintro e w2 ⟨rfl, hb2⟩
        have HO2 := Lib.hid (own_newer HO1.out hb2)
        obtain ⟨hc2, hf2⟩ := bcell hb2
        have HB2 := Lib.hid (below_trans HB1.out hb2 (Nat.le_refl _))
        have hs2 := hb2.size
        have hz2 : w.heap.size < w2.heap.size := by omega
        clear hb2
        go_wp2_with fail
        refine (contains_Grant g l A n c lo hi _ (by omega) (HR.out.new HB2.out)).mono ?_
        rw [H1.out]
        rintro e w3 ⟨rfl, hb3⟩
        have HO3 := Lib.hid (own_newer HO2.out hb3)
        obtain ⟨hc3, hf3⟩ := bcell hb3
        have HB3 := Lib.hid (below_trans HB2.out hb3 (Nat.le_refl _))
        have HS3 := Lib.hid HB3.out.size
        clear hb3
        go_wp2_with (at_builtin; refine wp_app_lit rfl _ _ _ rfl w.heap.size 43 (.agg #[.int .i64 0, .int .i64 0, .int .i64 0, .int .i64 0, .int .i64 0, .int .i64 0, .bool false]) 7 56 Try.underlying51 infoGrant rfl (by decide) _ _ _ rfl HO3.out #[.int .i64 g.f0, .int .i64 g.f1, .int .i64 g.f2, .int .i64 g.f3, .int .i64 g.f4, .int .i64 g.f5, .bool g.f6] 1 1 _ rfl (by simp) rfl (onesGrant g) (by unfold maxLen; omega) (by omega) (by have := HS3.out; omega) ?_; intro v1 w4 ho4 hb4)
        have HO4 := Lib.hid ho4
        have HB4 := Lib.hid (HB3.out.trans hb4)
        clear ho4 hb4
        obtain ⟨A', c', hv, hF⟩ := fr_of_own HO4.out
        subst hv
        have HF := Lib.hid hF
        clear hF HO1 HO2 HO3 HO4
        go_wp2_with fail
        go_ret2
        exact ⟨A', c', by first | (rw [HE.out, List.length_append, HL.out]; rfl) | (rw [HE.out, HL.out]; rfl) | (simp only [List.length_append, HL.out, List.length_singleton, HE.out]; rfl), by first | (rw [List.length_append, HL.out]; simpa [cGrant, List.flatMap_append, TGrant.cells] using HF.out) | (rw [HL.out]; simpa [cGrant, List.flatMap_append, TGrant.cells] using HF.out), HB4.out⟩
  · have h0 : mIsGrant g = false := by simpa using h0
    have HE := Lib.hid (show mAddOk l g = false by simp only [mAddOk, h0]; rfl)
    have HV := Lib.hid (mAdd_no HE.out)
    rw [HV.out]
    go_enter Try.func44, Try.ntmps44
    go_wp2_with fail
    refine (clone_Grant l A n c lo hi _ hn (HR.out.alloc _)).mono ?_
    rintro e w1 ⟨v, rfl, ho1, hb1⟩
    have HO1 := Lib.hid (own_base (base' := w.heap.size) ho1 (by simp))
    obtain ⟨hc1, hf1⟩ := bcell hb1
    have HB1 := Lib.hid (below_trans ((Below.refl _ _).alloc (Nat.le_refl _) _) hb1 (by simp))
    have hs1 := hb1.size
    simp at hs1
    have hz0 : w.heap.size < w1.heap.size := by omega
    clear ho1 hb1
    go_wp2_with fail
    refine (impl_IsGrant g _).mono ?_
    rintro e w2 ⟨rfl, hb2⟩
    have HO2 := Lib.hid (own_newer HO1.out hb2)
    have HB2 := Lib.hid (below_trans HB1.out hb2 (Nat.le_refl _))
    clear hb2
    obtain ⟨A', c', hv, hF⟩ := fr_of_own HO2.out
    subst hv
    have HF := Lib.hid hF
    clear hF HO1 HO2
    go_wp2_with fail
    go_ret2
    exact ⟨A', c', by rw [HE.out, HL.out]; rfl, by rw [HL.out]; exact HF.out, HB2.out⟩
set_option maxHeartbeats 8000000 in
theorem spec_AddGrant (l : List TGrant) (A : Option Addr) (n c lo hi : Nat) (g : TGrant) (w : World) (hn : n ≤ 1048576) (hr : Rd w lo hi 7 A n (cGrant l)) (H : Hid (cGrantOk l)) :
    Calls Try.prog 43 #[.slice A n c, vGrant g] w (MakesV 43 7 (mAddL l g).length (cGrant (mAddL l g)) (.bool (mAddOk l g)) w) := by
  have HL := Lib.hid (rd_len TGrant.len hr (by decide))
  have HR := Lib.hid hr
  clear hr
  generalize hP : (fun x : TGrant => decide (g = x)) = P
  have HP := Lib.hid hP
  have HOK := Lib.hid (show mAddOk l g = (mIsGrant g && !(l.any P) && decide (l.length < 16)) by rw [← hP]; rfl)
  clear hP
  have HO : Hid (((w.alloc (.cells #[.int .i64 g.f0, .int .i64 g.f1, .int .i64 g.f2, .int .i64 g.f3, .int .i64 g.f4, .int .i64 g.f5, .bool g.f6] 43)).alloc (.cells #[] 43)).ownsRow w.heap.size 43 7 (.slice (some ⟨w.heap.size + 1, 0, none⟩) 0 0) 0 []) := Lib.hid (by simpa using World.ownsRow_lit (base := w.heap.size) (e := 43) (size := 7) (w.alloc (.cells #[.int .i64 g.f0, .int .i64 g.f1, .int .i64 g.f2, .int .i64 g.f3, .int .i64 g.f4, .int .i64 g.f5, .bool g.f6] 43)) #[] 0 (by simp) (by unfold maxLen; omega) rfl)
  have HX0 := Lib.hid ((box_new w 43 #[.int .i64 g.f0, .int .i64 g.f1, .int .i64 g.f2, .int .i64 g.f3, .int .i64 g.f4, .int .i64 g.f5, .bool g.f6]).alloc_ (.cells #[] 43))
  go_enter Try.func43, Try.ntmps43
  go_wp2_with (at_builtin; refine wp_app rfl _ _ _ rfl w.heap.size 43 (.agg #[.int .i64 0, .int .i64 0, .int .i64 0, .int .i64 0, .int .i64 0, .int .i64 0, .bool false]) 7 56 Try.underlying51 infoGrant rfl (by decide) _ _ _ rfl HO.out lo hi A n c (cGrant l) rfl ((HR.out.alloc _).alloc _) (ocGrant l) (by unfold maxLen; omega) (by omega) (by simp <;> omega) ?_; intro v w1 ho1 hb1 hg1 ho2)
  have HO1 := Lib.hid (show w1.ownsRow w.heap.size 43 7 v n (cGrant l) by simpa using ho1)
  have HB1 := Lib.hid (((((Below.refl w.heap.size w).alloc (Nat.le_refl _) _).alloc (by simp) _)).trans hb1)
  have HX1 := Lib.hid (HX0.out.grown hg1 (by simp))
  clear ho1 hb1 hg1 ho2
  go_wp2_with fail
  go_loopg [7] n (fun gg i wr => ∃ k : Nat, k ≤ n ∧ n - k ≤ gg ∧ i = .int .i64 k ∧ Hid (Below w1.heap.size w1 wr) ∧ Hid (BoxAt wr w.heap.size 43 #[.int .i64 g.f0, .int .i64 g.f1, .int .i64 g.f2, .int .i64 g.f3, .int .i64 g.f4, .int .i64 g.f5, .bool g.f6]) ∧ Hid ((l.take k).any P = false))
  case atStart => exact ⟨0, Nat.zero_le _, by omega, rfl, Lib.hid (Below.refl _ _), HX1, Lib.hid (by simp)⟩
  case round =>
    obtain ⟨k, hk, hg, rfl, HB, HX, HF⟩ := hrel
    have HBw := Lib.hid (below_trans HB1.out HB.out (Nat.le_refl _))
    have HOw := Lib.hid (own_newer HO1.out HB.out)
    by_cases hlt : k < n
    · obtain ⟨b, off, x, rfl, _, _, hz, hc⟩ := rd_elem TGrant.len (HR.out.new HBw.out) HL.out hlt
      have c0 : wr.cell? ⟨b, off + k * 7, none⟩ = _ := hc 0 _ rfl
      have c1 := hc 1 _ rfl
      have c2 := hc 2 _ rfl
      have c3 := hc 3 _ rfl
      have c4 := hc 4 _ rfl
      have c5 := hc 5 _ rfl
      have c6 := hc 6 _ rfl
      have d0 : wr.cell? ⟨w.heap.size, 0, none⟩ = _ := HX.out.at_ rfl
      have d1 : wr.cell? ⟨w.heap.size, 1, none⟩ = _ := HX.out.at_ rfl
      have d2 : wr.cell? ⟨w.heap.size, 2, none⟩ = _ := HX.out.at_ rfl
      have d3 : wr.cell? ⟨w.heap.size, 3, none⟩ = _ := HX.out.at_ rfl
      have d4 : wr.cell? ⟨w.heap.size, 4, none⟩ = _ := HX.out.at_ rfl
      have d5 : wr.cell? ⟨w.heap.size, 5, none⟩ = _ := HX.out.at_ rfl
      have d6 : wr.cell? ⟨w.heap.size, 6, none⟩ = _ := HX.out.at_ rfl
      have HZ := Lib.hid hz
      have HPx := Lib.hid (show decide (g = x) = P x by rw [← HP.out])
      clear hz hc
      by_cases e : x = g
      · have g1 : ∀ w, _ := fun w => (eql_Grant x g w).trans (by rw [decide_eq_true e])
        have HE := Lib.hid (show mAddOk l g = false by
          rw [HOK.out, List.any_eq_true.2 ⟨x, mem_of_get HZ.out, by rw [← HPx.out, decide_eq_true e.symm]⟩]; simp)
        have HV := Lib.hid (mAdd_no HE.out)
        try rw [HV.out]
        clear e
        go_wp2_with fail
        go_quiet (fail)
        have HBq := Lib.hid (below_dN HBw.out)
        obtain ⟨A', c', hv, hF⟩ := fr_of_own HOw.out
        subst hv
        have HF := Lib.hid hF
        clear hF
        go_wp2_with fail
        go_ret2
        exact ⟨A', c', by first | (rw [HE.out, HV.out, HL.out]; rfl) | (rw [HE.out, HV.out, List.length_append, HL.out]; rfl) | (rw [HE.out, List.length_append, HL.out]; rfl) | (rw [HE.out, HL.out]; rfl) | (simp only [List.length_append, HL.out, List.length_singleton, HE.out]; rfl), by first | (rw [HL.out]; exact HF.out) | (rw [HV.out, HL.out]; exact HF.out), by first | exact below_dN HBw.out _ | exact HBw.out⟩
      · have g1 : ∀ w, _ := fun w => (eql_Grant x g w).trans (by rw [decide_eq_false e])
        have HE := Lib.hid (any_step HF.out HZ.out (by rw [← HPx.out, decide_eq_false (fun h => e h.symm)]))
        clear e
        go_wp2_with fail
        go_quiet (fail)
        go_wp2_with fail
        go_roundg (n - (k + 1))
        case measure => omega
        case rel => exact ⟨k + 1, by omega, by omega, by go_num, Lib.hid (below_dN HB.out _), Lib.hid HX.out, HE⟩
    · obtain rfl : k = n := by omega
      have HA := Lib.hid (show l.any P = false by have := HF.out; rw [List.take_of_length_le (by have := HL.out; omega)] at this; exact this)
      have d0 : wr.cell? ⟨w.heap.size, 0, none⟩ = _ := HX.out.at_ rfl
      have d1 : wr.cell? ⟨w.heap.size, 1, none⟩ = _ := HX.out.at_ rfl
      have d2 : wr.cell? ⟨w.heap.size, 2, none⟩ = _ := HX.out.at_ rfl
      have d3 : wr.cell? ⟨w.heap.size, 3, none⟩ = _ := HX.out.at_ rfl
      have d4 : wr.cell? ⟨w.heap.size, 4, none⟩ = _ := HX.out.at_ rfl
      have d5 : wr.cell? ⟨w.heap.size, 5, none⟩ = _ := HX.out.at_ rfl
      have d6 : wr.cell? ⟨w.heap.size, 6, none⟩ = _ := HX.out.at_ rfl
      by_cases h0 : mIsGrant g = true
      · by_cases h2 : 16 ≤ k
        · have HE := Lib.hid (show mAddOk l g = false by rw [HOK.out, h0, HA.out]; simp; have := HL.out; omega)
          have HV := Lib.hid (mAdd_no HE.out)
          try rw [HV.out]
          go_wp2_with fail
          refine (spec_IsGrant g _).mono ?_
          rintro e w2 ⟨rfl, hb2⟩
          have HO2 := Lib.hid (own_newer HOw.out hb2)
          have HB2 := Lib.hid (below_trans HBw.out hb2 (Nat.le_refl _))
          clear hb2
          obtain ⟨A', c', hv, hF⟩ := fr_of_own HO2.out
          subst hv
          have HF := Lib.hid hF
          clear hF
          go_wp2_with fail
          go_ret2
          exact ⟨A', c', by first | (rw [HE.out, HV.out, HL.out]; rfl) | (rw [HE.out, HV.out, List.length_append, HL.out]; rfl) | (rw [HE.out, List.length_append, HL.out]; rfl) | (rw [HE.out, HL.out]; rfl) | (simp only [List.length_append, HL.out, List.length_singleton, HE.out]; rfl), by first | (rw [HL.out]; exact HF.out) | (rw [HV.out, HL.out]; exact HF.out), HB2.out⟩
        · have HE := Lib.hid (show mAddOk l g = true by rw [HOK.out, h0, HA.out]; simp; have := HL.out; omega)
          have HV := Lib.hid (mAdd_yes HE.out)
          try rw [HV.out]
          go_wp2_with fail
          refine (spec_IsGrant g _).mono ?_
          rintro e w2 ⟨rfl, hb2⟩
          have HO2 := Lib.hid (own_newer HOw.out hb2)
          have HB2 := Lib.hid (below_trans HBw.out hb2 (Nat.le_refl _))
          have HX2 := HX.out.new hb2
          have y0 : w2.cell? ⟨w.heap.size, 0, none⟩ = _ := HX2.at_ rfl
          have y1 : w2.cell? ⟨w.heap.size, 1, none⟩ = _ := HX2.at_ rfl
          have y2 : w2.cell? ⟨w.heap.size, 2, none⟩ = _ := HX2.at_ rfl
          have y3 : w2.cell? ⟨w.heap.size, 3, none⟩ = _ := HX2.at_ rfl
          have y4 : w2.cell? ⟨w.heap.size, 4, none⟩ = _ := HX2.at_ rfl
          have y5 : w2.cell? ⟨w.heap.size, 5, none⟩ = _ := HX2.at_ rfl
          have y6 : w2.cell? ⟨w.heap.size, 6, none⟩ = _ := HX2.at_ rfl
          clear hb2 HX2
          have HS2 := Lib.hid HB2.out.size
          go_wp2_with (at_builtin; refine wp_app_lit rfl _ _ _ rfl w.heap.size 43 (.agg #[.int .i64 0, .int .i64 0, .int .i64 0, .int .i64 0, .int .i64 0, .int .i64 0, .bool false]) 7 56 Try.underlying51 infoGrant rfl (by decide) _ _ _ rfl HO2.out #[.int .i64 g.f0, .int .i64 g.f1, .int .i64 g.f2, .int .i64 g.f3, .int .i64 g.f4, .int .i64 g.f5, .bool g.f6] 1 1 _ rfl (by simp) rfl (onesGrant g) (by unfold maxLen; omega) (by omega) (by have := HS2.out; omega) ?_; intro v1 w4 ho4 hb4)
          have HO4 := Lib.hid ho4
          have HB4 := Lib.hid (HB2.out.trans hb4)
          clear ho4 hb4
          obtain ⟨A', c', hv, hF⟩ := fr_of_own HO4.out
          subst hv
          have HF := Lib.hid hF
          clear hF
          go_wp2_with fail
          go_ret2
          exact ⟨A', c', by first | (rw [HE.out, HV.out, HL.out]; rfl) | (rw [HE.out, HV.out, List.length_append, HL.out]; rfl) | (rw [HE.out, List.length_append, HL.out]; rfl) | (rw [HE.out, HL.out]; rfl) | (simp only [List.length_append, HL.out, List.length_singleton, HE.out]; rfl), by first | (rw [HV.out, List.length_append, HL.out]; simpa [cGrant, List.flatMap_append, TGrant.cells] using HF.out) | (rw [List.length_append, HL.out]; simpa [cGrant, List.flatMap_append, TGrant.cells] using HF.out) | (rw [HL.out]; simpa [cGrant, List.flatMap_append, TGrant.cells] using HF.out), HB4.out⟩
      · have h0 : mIsGrant g = false := by simpa using h0
        have HE := Lib.hid (show mAddOk l g = false by rw [HOK.out, h0]; rfl)
        have HV := Lib.hid (mAdd_no HE.out)
        try rw [HV.out]
        go_wp2_with fail
        refine (spec_IsGrant g _).mono ?_
        rintro e w2 ⟨rfl, hb2⟩
        have HO2 := Lib.hid (own_newer HOw.out hb2)
        have HB2 := Lib.hid (below_trans HBw.out hb2 (Nat.le_refl _))
        clear hb2
        obtain ⟨A', c', hv, hF⟩ := fr_of_own HO2.out
        subst hv
        have HF := Lib.hid hF
        clear hF
        go_wp2_with fail
        go_ret2
        exact ⟨A', c', by first | (rw [HE.out, HV.out, HL.out]; rfl) | (rw [HE.out, HV.out, List.length_append, HL.out]; rfl) | (rw [HE.out, List.length_append, HL.out]; rfl) | (rw [HE.out, HL.out]; rfl) | (simp only [List.length_append, HL.out, List.length_singleton, HE.out]; rfl), by first | (rw [HL.out]; exact HF.out) | (rw [HV.out, HL.out]; exact HF.out), HB2.out⟩
end Go.Proofs.Ytmemngemgaljgaa
