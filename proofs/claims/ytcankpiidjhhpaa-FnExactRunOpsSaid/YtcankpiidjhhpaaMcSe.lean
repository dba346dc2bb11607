/- The model's step of sending, and any step. No condition of its own. -/
import Derived.Test.YtcankpiidjhhpaaMcSd
namespace Go.Proofs.Ytcankpiidjhhpaa
open Go Go.ChangeShapes Go.WideShapes Go.ChangeAt Go.RowKit Go.Lib
set_option linter.unusedVariables false
set_option linter.unusedSimpArgs false
set_option maxRecDepth 100000
set_option maxHeartbeats 16000000 in
theorem st_5 (o : TOp) (vals : List Int) (A : Option Addr) (n c lo hi gv cv gb cb : Nat) (v b : List Int) (w : World) (hn : n ≤ 1048576) (hr : Rd w lo hi 1 A n (i64s vals)) (hhi : hi ≤ gv) (ho : mOp o = true) (hk : o.f0 = 5) (hv : v.length = 6 ∧ ∀ z ∈ v, 0 ≤ z ∧ z ≤ 999) (hb : b.length = 6 ∧ ∀ z ∈ b, mIsLabel z = true) (hV : IRow w gv cv v) (hB : IRow w gb cb b) (hg : gv < gb) :
  Calls Try.prog 81 #[.agg #[.int .i64 o.f0, .int .i64 o.f1, .int .i64 o.f2, .int .i64 o.f3], .slice A n c, .slice (some ⟨gv, 0, none⟩) 6 cv, .slice (some ⟨gb, 0, none⟩) 6 cb] w (fun e w' => e = .returned (.tuple #[.agg #[.int .i64 (mSs o v b).f0, .int .i64 (mSs o v b).f1, .int .i64 (mSs o v b).f2], .bool (o.f0 == 5)]) ∧ IRow w' gv cv (mStV o vals v) ∧ IRow w' gb cb (mStB o b) ∧ Chg gv (gb + 1) w w') := by
 obtain ⟨qa, h2, h3⟩ := mOp_12 ho (.inr hk)
 obtain ⟨ka, e1, hka⟩ := mReg_n qa
 rw [e1] at qa
 obtain ⟨va, eva⟩ : ∃ z, Hid (v.getD ka 0 = z) := ⟨_, Lib.hid rfl⟩
 obtain ⟨ba, ela⟩ : ∃ z, Hid (b.getD ka 0 = z) := ⟨_, Lib.hid rfl⟩
 have hva : 0 ≤ va ∧ va ≤ 999 := by have h0 := gI_in (P := fun z => 0 ≤ z ∧ z ≤ 999) hv (k := (ka : Int)) qa; rw [← eva.out]; simpa [gI] using h0
 have hba : mIsLabel ba = true := by have h0 := gI_in (P := fun z => mIsLabel z = true) hb (k := (ka : Int)) qa; rw [← ela.out]; simpa [gI] using h0
 have hkia : (ka : Int) < 6 := by omega
 have EV : mStV o vals v = v := by unfold mStV; simp [hk]
 have EB : mStB o b = b := by unfold mStB; simp [hk]
 have ES : mSs o v b = ⟨o.f2, va, ba⟩ := by unfold mSs; rw [if_pos hk, e1, ← eva.out, ← ela.out]; rfl
 have E5 : (o.f0 == 5) = true := by simp [hk]
 rw [EV, EB, ES, E5, hk, e1]
 clear EV EB ES E5 e1 hva hba qa h2 h3
 have HVl := Lib.hid hv.1
 have HLl := Lib.hid hb.1
 have hgs := hB.lt
 have hgw := hV.lt
 have KA := Lib.hid ((box_new w 49 #[.int .i64 5, .int .i64 (ka : Int), .int .i64 o.f2, .int .i64 o.f3]).alloc_ (.cells #[.int .i64 0, .int .i64 0, .int .i64 0] 47))
 have KC := Lib.hid (show BoxAt ((w.alloc (.cells #[.int .i64 5, .int .i64 (ka : Int), .int .i64 o.f2, .int .i64 o.f3] 49)).alloc (.cells #[.int .i64 0, .int .i64 0, .int .i64 0] 47)) (w.heap.size + 1) 47 #[.int .i64 0, .int .i64 0, .int .i64 0] by simpa using box_new (w.alloc (.cells #[.int .i64 5, .int .i64 (ka : Int), .int .i64 o.f2, .int .i64 o.f3] 49)) 47 #[.int .i64 0, .int .i64 0, .int .i64 0])
 have HC := Lib.hid (((Chg.refl gv (gb + 1) w).alloc (.cells #[.int .i64 5, .int .i64 (ka : Int), .int .i64 o.f2, .int .i64 o.f3] 49)).alloc (.cells #[.int .i64 0, .int .i64 0, .int .i64 0] 47))
 have GVx := Lib.hid (show IRow ((w.alloc (.cells #[.int .i64 5, .int .i64 (ka : Int), .int .i64 o.f2, .int .i64 o.f3] 49)).alloc (.cells #[.int .i64 0, .int .i64 0, .int .i64 0] 47)) gv cv v from (hV.alloc _).alloc _)
 have GBx := Lib.hid (show IRow ((w.alloc (.cells #[.int .i64 5, .int .i64 (ka : Int), .int .i64 o.f2, .int .i64 o.f3] 49)).alloc (.cells #[.int .i64 0, .int .i64 0, .int .i64 0] 47)) gb cb b from (hB.alloc _).alloc _)
 clear hr hv hb hV hB ho hk hn
 go_enter Try.func81, Try.ntmps81
 go_upto_region 16 with fail
 generalize ((w.alloc (.cells #[.int .i64 5, .int .i64 (ka : Int), .int .i64 o.f2, .int .i64 o.f3] 49)).alloc (.cells #[.int .i64 0, .int .i64 0, .int .i64 0] 47)) = wx at KA KC HC GVx GBx ⊢
 have ka0 := KA.out.at_ (j := 0) rfl
 have ka1 := KA.out.at_ (j := 1) rfl
 have ka2 := KA.out.at_ (j := 2) rfl
 have ka3 := KA.out.at_ (j := 3) rfl
 have v0 := GVx.out.cell hka
 rw [eva.out] at v0
 have b0 := GBx.out.cell hka
 rw [ela.out] at b0
 go_still_tail 13, (by kernel_rfl)
 clear v0 b0 ka0 ka1 ka2 ka3
 change wpList _ _ _ _ _ (World.drew wx)
 replace KA := Lib.hid KA.out.drw
 replace KC := Lib.hid KC.out.drw
 replace HC := Lib.hid (HC.out.drewN 1)
 replace GVx := Lib.hid GVx.out.drw
 replace GBx := Lib.hid GBx.out.drw
 replace HC := Lib.hid (show Chg gv (gb + 1) w (World.drew wx) from HC.out)
 generalize World.drew wx = wy at KA KC HC GVx GBx ⊢
 go_wp2_with (refine wpList_store_row rfl 47 _ _ rfl (w.heap.size + 1) #[.int .i64 o.f2, .int .i64 va, .int .i64 ba] rfl rfl 47 _ KC.out (by kernel_rfl) (by kernel_rfl) (by kernel_rfl) ?_)
 have e0 := (box_row (cs := #[.int .i64 o.f2, .int .i64 va, .int .i64 ba]) KC.out).at_ (j := 0) rfl
 have e1 := (box_row (cs := #[.int .i64 o.f2, .int .i64 va, .int .i64 ba]) KC.out).at_ (j := 1) rfl
 have e2 := (box_row (cs := #[.int .i64 o.f2, .int .i64 va, .int .i64 ba]) KC.out).at_ (j := 2) rfl
 exact bodyPost_ret (v := .tuple #[.agg #[.int .i64 o.f2, .int .i64 va, .int .i64 ba], .bool true]) (by simp [results, Try.results81, go_sem, e0, e1, e2]) rfl ⟨rfl, irow_row GVx.out _ (by omega), irow_row GBx.out _ (by omega), chg_row_new HC.out (by omega) _⟩
theorem spec_step (o : TOp) (vals : List Int) (A : Option Addr) (n c lo hi gv cv gb cb : Nat) (v b : List Int) (w : World) (hn : n ≤ 1048576) (hr : Rd w lo hi 1 A n (i64s vals)) (hhi : hi ≤ gv) (ho : mOp o = true) (hv : v.length = 6 ∧ ∀ z ∈ v, 0 ≤ z ∧ z ≤ 999) (hb : b.length = 6 ∧ ∀ z ∈ b, mIsLabel z = true) (hV : IRow w gv cv v) (hB : IRow w gb cb b) (hg : gv < gb) :
  Calls Try.prog 81 #[.agg #[.int .i64 o.f0, .int .i64 o.f1, .int .i64 o.f2, .int .i64 o.f3], .slice A n c, .slice (some ⟨gv, 0, none⟩) 6 cv, .slice (some ⟨gb, 0, none⟩) 6 cb] w (fun e w' => e = .returned (.tuple #[.agg #[.int .i64 (mSs o v b).f0, .int .i64 (mSs o v b).f1, .int .i64 (mSs o v b).f2], .bool (o.f0 == 5)]) ∧ IRow w' gv cv (mStV o vals v) ∧ IRow w' gb cb (mStB o b) ∧ Chg gv (gb + 1) w w') := by
 rcases mOp_k ho with h | h | h | h | h
 ·
  exact st_1 o vals A n c lo hi gv cv gb cb v b w hn hr hhi ho h hv hb hV hB hg
 ·
  exact st_2 o vals A n c lo hi gv cv gb cb v b w hn hr hhi ho h hv hb hV hB hg
 ·
  exact st_3 o vals A n c lo hi gv cv gb cb v b w hn hr hhi ho h hv hb hV hB hg
 ·
  exact st_4 o vals A n c lo hi gv cv gb cb v b w hn hr hhi ho h hv hb hV hB hg
 ·
  exact st_5 o vals A n c lo hi gv cv gb cb v b w hn hr hhi ho h hv hb hV hB hg
end Go.Proofs.Ytcankpiidjhhpaa
