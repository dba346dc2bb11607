/- The model's registers: six zeros, and what a step makes of them. No condition of its own. -/
import Derived.Test.YtcankpiidjhhpaaRgn
import Derived.Test.YtcankpiidjhhpaaMcM
import Derived.Test.YtcankpiidjhhpaaReg
import Derived.StillTailTactics
import Derived.Deep.RegionHeld3
import Derived.Deep.LoopGhost
import Derived.Deep.DeepCutAuto
namespace Go.Proofs.Ytcankpiidjhhpaa
open Go Go.ChangeShapes Go.WideShapes Go.ChangeAt Go.RowKit Go.Lib
set_option linter.unusedVariables false
set_option linter.unusedSimpArgs false
set_option maxRecDepth 100000

/-- Block g is a row that may be written, and its first six cells are these numbers. -/
def IRow (w : World) (g c : Nat) (l : List Int) : Prop := 6 ≤ c ∧ c ≤ maxLen ∧ ∃ f, w.rowIs g 3 c f ∧ ∀ j, j < 6 → f j = .int .i64 (l.getD j 0)
section
variable {w w' : World} {g c : Nat} {l : List Int}
theorem IRow.lt (h : IRow w g c l) : g < w.heap.size := by obtain ⟨_, _, f, hr, _⟩ := h; exact hr.lt
theorem IRow.keep (h : IRow w g c l) (e : w'.heap[g]? = w.heap[g]?) : IRow w' g c l := by obtain ⟨h1, h2, f, hr, hf⟩ := h; exact ⟨h1, h2, f, hr.of_block e, hf⟩
theorem IRow.new (h : IRow w g c l) (hb : Below w.heap.size w w') : IRow w' g c l := h.keep (hb.block g h.lt)
theorem IRow.drw (h : IRow w g c l) : IRow w.drew g c l := h
theorem IRow.alloc (h : IRow w g c l) (o : Obj) : IRow (w.alloc o) g c l := h.keep (Below.heap_alloc w o g h.lt)
theorem IRow.chg {lo hi : Nat} (h : IRow w g c l) (hc : Chg lo hi w w') (hd : ¬ (lo ≤ g ∧ g < hi)) : IRow w' g c l := h.keep (hc.block g h.lt hd)
theorem IRow.cell (h : IRow w g c l) {k : Nat} (hk : k < 6) : w.cell? ⟨g, k, none⟩ = some (.int .i64 (l.getD k 0)) := by obtain ⟨h1, _, f, hr, hf⟩ := h; rw [hr.cell (by omega), hf k hk]
theorem IRow.frozen (h : IRow w g c l) (k : Nat) : w.frozen? ⟨g, k, none⟩ = false := by obtain ⟨_, _, f, hr, _⟩ := h; exact hr.frozen k
theorem getD_put {l : List Int} {k : Nat} {z : Int} (j : Nat) (hk : k < l.length) : (l.set k z).getD j 0 = if k = j then z else l.getD j 0 := by
 simp only [List.getD_eq_getElem?_getD, List.getElem?_set]
 by_cases e : k = j
 ·
  subst e; simp [hk]
 ·
  simp [e]
theorem IRow.put (h : IRow w g c l) {k : Nat} (hk : k < 6) (hl : l.length = 6) (z : Int) : IRow (w.setCell ⟨g, k, none⟩ (.int .i64 z)) g c (l.set k z) := by
 obtain ⟨h1, h2, f, hr, hf⟩ := h
 refine ⟨h1, h2, _, hr.set k (.int .i64 z), fun j hj => ?_⟩
 rw [getD_put j (by omega)]
 by_cases e : j = k
 ·
  subst e; rw [if_pos rfl, if_pos rfl]
 ·
  rw [if_neg e, if_neg (by omega), hf j hj]
theorem IRow.far (h : IRow w g c l) {q k : Nat} (hq : g ≠ q) (u : Value) : IRow (w.setCell ⟨q, k, none⟩ u) g c l := h.keep (Below.heap_setCell w _ u g (by exact hq))
theorem IRow.fr (h : IRow w g c l) (hl : l.length = 6) : Fr w g (g + 1) 3 1 (some ⟨g, 0, none⟩) 6 c (i64s l) := by
 obtain ⟨h1, h2, f, hr, hf⟩ := h
 refine fr_of_rowcap (by simpa using hr) (Nat.le_refl _) (Nat.lt_succ_self _) h1 h2 (by simp [i64s, hl]) fun j u hu => ?_
 have hj : j < 6 := by have := (List.getElem?_eq_some_iff.1 hu).1; simpa [i64s, hl] using this
 rw [hf j hj]
 simp only [i64s, List.getElem?_map] at hu
 obtain ⟨z, hz, rfl⟩ := Option.map_eq_some_iff.1 hu
 rw [List.getD_eq_getElem?_getD, hz]
 rfl
theorem irow_of_fr {lo hi : Nat} {A : Option Addr} (h : Fr w lo hi 3 1 A 6 c (i64s l)) : ∃ g, A = some ⟨g, 0, none⟩ ∧ lo ≤ g ∧ g < hi ∧ IRow w g c l := by
 obtain ⟨g, cap, hA, h1, h2, h3, rfl, h5, f, hr, hf⟩ := h.row (by decide)
 refine ⟨g, hA, h1, h2, h3, h5, f, by simpa using hr, fun j hj => ?_⟩
 have hl : l.length = 6 := by have := h.len; simpa [i64s] using this
 refine hf j _ ?_
 simp only [i64s, List.getElem?_map]
 rw [List.getElem?_eq_getElem (by omega), List.getD_eq_getElem?_getD, List.getElem?_eq_getElem (by omega)]
 rfl
theorem chg_one {lo hi q k : Nat} {w0 : World} (h : Chg lo hi w0 w) (h1 : lo ≤ q) (h2 : q < hi) (u : Value) : Chg lo hi w0 (w.setCell ⟨q, k, none⟩ u) := h.set_ (.inl ⟨h1, h2⟩) _
theorem set_same {k : Nat} (hk : k < l.length) : l.set k (l.getD k 0) = l := by
 apply List.ext_getElem?
 intro j
 rw [List.getElem?_set]
 by_cases e : k = j
 ·
  subst e
  rw [if_pos rfl, if_pos hk, List.getD_eq_getElem?_getD, List.getElem?_eq_getElem hk]
  rfl
 ·
  rw [if_neg e]
end
/-- What a step would send. -/
def mSs (o : TOp) (v b : List Int) : TSent := if o.f0 = 5 then ⟨o.f2, gI v o.f1, gI b o.f1⟩ else ⟨0, 0, 0⟩
set_option maxHeartbeats 8000000 in
theorem spec_zeros (w : World) : Calls Try.prog 80 #[] w (fun e w' => ∃ g c, e = .returned (.slice (some ⟨g, 0, none⟩) 6 c) ∧ w.heap.size ≤ g ∧ IRow w' g c (List.replicate 6 0) ∧ Below w.heap.size w w') := by
 go_enter Try.func80, Try.ntmps80
 go_wp2_with fail
 go_loopg [1, 2] 6 (fun gg v i wr => ∃ k : Nat, k ≤ 6 ∧ 6 - k ≤ gg ∧ i = .int .i64 k ∧ Hid (wr.ownsRow w.heap.size 3 1 v k (i64s (List.replicate k 0))) ∧ Hid (Below w.heap.size w wr))
 case atStart => exact ⟨0, Nat.zero_le _, by omega, rfl, Lib.hid (World.ownsRow_lit w #[] 0 (Nat.le_refl _) (by unfold maxLen; omega) rfl), Lib.hid ((Below.refl _ _).alloc (Nat.le_refl _) _)⟩
 case round =>
  obtain ⟨k, hk, hg, rfl, HO, HB⟩ := hrel
  by_cases hlt : k < 6
  ·
   have hki : decide ((k : Int) < 6) = true := by simp; omega
   have HN := Lib.hid hlt
   have HS := Lib.hid HB.out.size
   clear hlt
   go_wp2_with (at_builtin; refine wp_app_lit rfl _ _ _ rfl w.heap.size 3 (.int .i64 0) 1 8 Try.underlying29 info_intC rfl (by decide) _ _ _ rfl HO.out #[.int .i64 0] 1 1 _ rfl (by simp) rfl (one_intC _) (by have := HN.out; unfold maxLen; omega) (by have := HN.out; omega) (by have := HS.out; omega) ?_; intro v1 w2 ho1 hb1)
   have HO1 := Lib.hid (show w2.ownsRow w.heap.size 3 1 v1 (k + 1) (i64s (List.replicate (k + 1) 0)) by
    have e : i64s (List.replicate (k + 1) 0) = i64s (List.replicate k 0) ++ (#[Value.int .i64 0]).toList := by simp [i64s, List.replicate_succ']
    rw [e]; exact ho1)
   have HB1 := Lib.hid (HB.out.trans hb1)
   clear ho1 hb1 HO
   go_wp2_with fail
   go_roundg (6 - (k + 1))
   case measure => have := HN.out; omega
   case rel => exact ⟨k + 1, by have := HN.out; omega, by have := HN.out; omega, by go_num, HO1, HB1⟩
  ·
   obtain rfl : k = 6 := by omega
   obtain ⟨A, c, rfl, hF⟩ := fr_of_own HO.out
   obtain ⟨g, rfl, h1, h2, h3⟩ := irow_of_fr hF
   have H3 := Lib.hid h3
   clear HO hF h3
   go_wp2_with fail
   go_ret
   exact ⟨_, _, rfl, h1, H3.out, HB.out⟩
theorem irow_row {w : World} {g c q : Nat} {l : List Int} (h : IRow w g c l) (cs : Array Value) (hq : g ≠ q) : IRow (w.setRow q cs) g c l := h.keep (setRow_other w q g cs hq)
theorem chg_row_new {lo hi q : Nat} {w0 w : World} (h : Chg lo hi w0 w) (hq : w0.heap.size ≤ q) (cs : Array Value) : Chg lo hi w0 (w.setRow q cs) :=
 ⟨h.os, h.tape, h.output, by simpa using h.size, fun k h1 h2 => (setRow_other w q k cs (by omega)).trans (h.block k h1 h2)⟩
theorem rd_boxs {w : World} {g : Nat} {t : TypeId} {cs : Array Value} (h : BoxAt w g t cs) : Rd w g (g + 1) 1 (some ⟨g, 0, none⟩) cs.size cs.toList :=
 ⟨by simp, fun _ => ⟨g, 0, rfl, Nat.le_refl _, Nat.lt_succ_self _, fun j u hu => by rw [Nat.zero_add]; exact h.at_ (by simpa using hu)⟩⟩
set_option maxHeartbeats 16000000 in
theorem st_1 (o : TOp) (vals : List Int) (A : Option Addr) (n c lo hi gv cv gb cb : Nat) (v b : List Int) (w : World) (hn : n ≤ 1048576) (hr : Rd w lo hi 1 A n (i64s vals)) (hhi : hi ≤ gv) (ho : mOp o = true) (hk : o.f0 = 1) (hv : v.length = 6 ∧ ∀ z ∈ v, 0 ≤ z ∧ z ≤ 999) (hb : b.length = 6 ∧ ∀ z ∈ b, mIsLabel z = true) (hV : IRow w gv cv v) (hB : IRow w gb cb b) (hg : gv < gb) :
  Calls Try.prog 81 #[.agg #[.int .i64 o.f0, .int .i64 o.f1, .int .i64 o.f2, .int .i64 o.f3], .slice A n c, .slice (some ⟨gv, 0, none⟩) 6 cv, .slice (some ⟨gb, 0, none⟩) 6 cb] w (fun e w' => e = .returned (.tuple #[.agg #[.int .i64 (mSs o v b).f0, .int .i64 (mSs o v b).f1, .int .i64 (mSs o v b).f2], .bool (o.f0 == 5)]) ∧ IRow w' gv cv (mStV o vals v) ∧ IRow w' gb cb (mStB o b) ∧ Chg gv (gb + 1) w w') := by
 obtain ⟨h1, h2, h3⟩ := mOp_12 ho (.inl hk)
 obtain ⟨ka, e1, hka⟩ := mReg_n h1
 obtain ⟨kb, e2⟩ : ∃ kb : Nat, o.f2 = (kb : Int) + 1 := ⟨(o.f2 - 1).toNat, by omega⟩
 have hkb : kb < 9 := by omega
 have EV : mStV o vals v = v.set ka (mVal vals kb) := by unfold mStV; rw [if_pos hk, e1, e2, show ((kb : Int) + 1).toNat - 1 = kb by omega]; rfl
 have EB : mStB o b = b.set ka ((mLabS [(kb : Int) + 1] 9 : Nat) : Int) := by unfold mStB; rw [if_pos hk, e1, e2]; rfl
 have ES : mSs o v b = ⟨0, 0, 0⟩ := by unfold mSs; rw [if_neg (by omega)]
 have E5 : (o.f0 == 5) = false := by simp; omega
 rw [EV, EB, ES, E5, hk, e1, e2]
 have CV := Lib.hid (fun W (hW : Chg gv (gb + 1) w W) => spec_Val vals A n c lo hi kb W hn (by omega) (hr.chg hW (by omega)))
 have CL := Lib.hid (fun (W : World) (q : Nat) (hq : BoxAt W q 3 #[.int .i64 ((kb : Int) + 1)]) => spec_LabelOf [(kb : Int) + 1] (some ⟨q, 0, none⟩) 1 1 q (q + 1) W (by decide) (by simpa [i64s] using rd_boxs hq))
 generalize mVal vals kb = vz at CV ⊢
 generalize ((mLabS [(kb : Int) + 1] 9 : Nat) : Int) = lz at CL ⊢
 have hki : (ka : Int) < 6 := by omega
 clear EV EB ES E5 h1 h2 h3 e1 e2 hkb
 have HVl := Lib.hid hv.1
 have HLl := Lib.hid hb.1
 have hgs := hB.lt
 have hgw := hV.lt
 have KA := Lib.hid ((box_new w 49 #[.int .i64 1, .int .i64 (ka : Int), .int .i64 ((kb : Int) + 1), .int .i64 o.f3]).alloc_ (.cells #[.int .i64 0, .int .i64 0, .int .i64 0] 47))
 have KC := Lib.hid (show BoxAt ((w.alloc (.cells #[.int .i64 1, .int .i64 (ka : Int), .int .i64 ((kb : Int) + 1), .int .i64 o.f3] 49)).alloc (.cells #[.int .i64 0, .int .i64 0, .int .i64 0] 47)) (w.heap.size + 1) 47 #[.int .i64 0, .int .i64 0, .int .i64 0] by simpa using box_new (w.alloc (.cells #[.int .i64 1, .int .i64 (ka : Int), .int .i64 ((kb : Int) + 1), .int .i64 o.f3] 49)) 47 #[.int .i64 0, .int .i64 0, .int .i64 0])
 have HC := Lib.hid (((Chg.refl gv (gb + 1) w).alloc (.cells #[.int .i64 1, .int .i64 (ka : Int), .int .i64 ((kb : Int) + 1), .int .i64 o.f3] 49)).alloc (.cells #[.int .i64 0, .int .i64 0, .int .i64 0] 47))
 have GVx := Lib.hid (show IRow ((w.alloc (.cells #[.int .i64 1, .int .i64 (ka : Int), .int .i64 ((kb : Int) + 1), .int .i64 o.f3] 49)).alloc (.cells #[.int .i64 0, .int .i64 0, .int .i64 0] 47)) gv cv v from (hV.alloc _).alloc _)
 have GBx := Lib.hid (show IRow ((w.alloc (.cells #[.int .i64 1, .int .i64 (ka : Int), .int .i64 ((kb : Int) + 1), .int .i64 o.f3] 49)).alloc (.cells #[.int .i64 0, .int .i64 0, .int .i64 0] 47)) gb cb b from (hB.alloc _).alloc _)
 clear hr hv hb hV hB ho hk hn
 go_enter Try.func81, Try.ntmps81
 have ka0 := KA.out.at_ (j := 0) rfl
 have ka1 := KA.out.at_ (j := 1) rfl
 have ka2 := KA.out.at_ (j := 2) rfl
 have ka3 := KA.out.at_ (j := 3) rfl
 go_wp2_with fail
 clear ka0 ka1 ka2 ka3
 have GV : IRow (World.drew _) gv cv _ := GVx.out.drw
 have GB : IRow (World.drew _) gb cb _ := GBx.out.drw
 refine wp_region_held_drew (S := fun w' => BoxAt w' w.heap.size 49 #[.int .i64 1, .int .i64 (ka : Int), .int .i64 ((kb : Int) + 1), .int .i64 o.f3] ∧ BoxAt w' (w.heap.size + 1) 47 #[.int .i64 0, .int .i64 0, .int .i64 0] ∧ Chg gv (gb + 1) w w') (by kernel_rfl) ?_ (fun hHeld => ?_)
 ·
  exact ⟨KA.out.drw, KC.out.drw, HC.out.drewN 1⟩
 generalize (World.drew _) = x0 at hHeld GV GB ⊢
 refine tk (i := 0) (oi := ⟨some 14, _, _, _, _, _⟩) (v := ?_) rfl hHeld ?_ ?_; rotate_left; (focus (intro _ _; go_simp; try with_reducible rfl)); try simp only [ptl]
 refine tk (i := 1) (oi := ⟨some 15, _, _, _, _, _⟩) (v := ?_) rfl hHeld ?_ ?_; rotate_left; (focus (intro _ _; go_simp; try with_reducible rfl)); try simp only [ptl]
 refine tk (i := 2) (oi := ⟨some 16, _, _, _, _, _⟩) (v := ?_) rfl hHeld ?_ ?_; rotate_left; (focus (intro W hS; have c0_0 := (hS.1).at_ (j := 0) rfl; have c0_1 := (hS.1).at_ (j := 1) rfl; have c0_2 := (hS.1).at_ (j := 2) rfl; have c0_3 := (hS.1).at_ (j := 3) rfl; have c1_0 := (hS.2.1).at_ (j := 0) rfl; have c1_1 := (hS.2.1).at_ (j := 1) rfl; have c1_2 := (hS.2.1).at_ (j := 2) rfl; clear hS; go_simp; try with_reducible rfl)); try simp only [ptl]
 refine tk (i := 3) (oi := ⟨some 17, _, _, _, _, _⟩) (v := ?_) rfl hHeld ?_ ?_; rotate_left; (focus (intro _ _; go_simp; try with_reducible rfl)); try simp only [ptl]
 refine tk (i := 4) (oi := ⟨some 18, _, _, _, _, _⟩) (v := ?_) rfl hHeld ?_ ?_; rotate_left; (focus (intro _ _; go_simp; try with_reducible rfl)); try simp only [ptl]
 refine tk (i := 5) (oi := ⟨some 19, _, _, _, _, _⟩) (v := ?_) rfl hHeld ?_ ?_; rotate_left; (focus (intro W hS; have c0_0 := (hS.1).at_ (j := 0) rfl; have c0_1 := (hS.1).at_ (j := 1) rfl; have c0_2 := (hS.1).at_ (j := 2) rfl; have c0_3 := (hS.1).at_ (j := 3) rfl; have c1_0 := (hS.2.1).at_ (j := 0) rfl; have c1_1 := (hS.2.1).at_ (j := 1) rfl; have c1_2 := (hS.2.1).at_ (j := 2) rfl; clear hS; go_simp; try with_reducible rfl)); try simp only [ptl]
 refine rd1 (i := 6) (o := ⟨some 20, _, _, _, _, _⟩) rfl (fun K hK => ?_)
 go_simp
 refine Calls.mono (says_of_same (CV.out _ hHeld.2.2)) ?_
 rintro e x1 ⟨rfl, hb1⟩
 replace GV := GV.new hb1
 replace GB := GB.new hb1
 refine hK.out _ _ ⟨hHeld.1.new hb1, hHeld.2.1.new hb1, Chg.trans hHeld.2.2 (chg_of_new hb1)⟩ (fun hHeld' => ?_)
 clear hK K hHeld hb1; have hHeld := hHeld'; clear hHeld'
 try simp only [ptl]
 refine tk (i := 7) (oi := ⟨some 21, _, _, _, _, _⟩) (v := ?_) rfl hHeld ?_ ?_; rotate_left; (focus (intro _ _; go_simp; try with_reducible rfl)); try simp only [ptl]
 refine rd1 (i := 8) (o := ⟨none, _, _, _, _, _⟩) rfl (fun K hK => ?_)
 have hc0 := GV.cell hka
 have hf0 := GV.frozen ka
 go_simp
 clear hc0 hf0
 replace GB := GB.far (q := gv) (k := ka) (by omega) (.int .i64 (vz))
 replace GV := GV.put hka HVl.out (vz)
 refine hK.out _ _ ⟨hHeld.1.chg (chg_one (Chg.refl gv (gb + 1) _) (by omega) (by omega) _) (by omega), hHeld.2.1.chg (chg_one (Chg.refl gv (gb + 1) _) (by omega) (by omega) _) (by omega), chg_one hHeld.2.2 (by omega) (by omega) _⟩ (fun hHeld' => ?_)
 clear hK K hHeld; have hHeld := hHeld'; clear hHeld'
 try simp only [ptl]
 refine wpAnyH_done (by kernel_rfl) ?_ _
 replace KA := Lib.hid hHeld.1
 replace KC := Lib.hid hHeld.2.1
 replace HC := Lib.hid hHeld.2.2
 replace GVx := Lib.hid GV
 replace GBx := Lib.hid GB
 clear hHeld GV GB
 have ka0 := KA.out.at_ (j := 0) rfl
 have ka1 := KA.out.at_ (j := 1) rfl
 have ka2 := KA.out.at_ (j := 2) rfl
 have ka3 := KA.out.at_ (j := 3) rfl
 go_wp2_with fail
 clear ka0 ka1 ka2 ka3
 have GV : IRow (World.drew _) gv cv _ := GVx.out.drw
 have GB : IRow (World.drew _) gb cb _ := GBx.out.drw
 refine wp_region_held_drew (S := fun w' => BoxAt w' w.heap.size 49 #[.int .i64 1, .int .i64 (ka : Int), .int .i64 ((kb : Int) + 1), .int .i64 o.f3] ∧ BoxAt w' (w.heap.size + 1) 47 #[.int .i64 0, .int .i64 0, .int .i64 0] ∧ Chg gv (gb + 1) w w') (by kernel_rfl) ?_ (fun hHeld => ?_)
 ·
  exact ⟨KA.out.drw, KC.out.drw, HC.out.drewN 1⟩
 generalize (World.drew _) = x0 at hHeld GV GB ⊢
 refine tk (i := 0) (oi := ⟨some 22, _, _, _, _, _⟩) (v := ?_) rfl hHeld ?_ ?_; rotate_left; (focus (intro _ _; go_simp; try with_reducible rfl)); try simp only [ptl]
 refine tk (i := 1) (oi := ⟨some 23, _, _, _, _, _⟩) (v := ?_) rfl hHeld ?_ ?_; rotate_left; (focus (intro _ _; go_simp; try with_reducible rfl)); try simp only [ptl]
 refine tk (i := 2) (oi := ⟨some 24, _, _, _, _, _⟩) (v := ?_) rfl hHeld ?_ ?_; rotate_left; (focus (intro W hS; have c0_0 := (hS.1).at_ (j := 0) rfl; have c0_1 := (hS.1).at_ (j := 1) rfl; have c0_2 := (hS.1).at_ (j := 2) rfl; have c0_3 := (hS.1).at_ (j := 3) rfl; have c1_0 := (hS.2.1).at_ (j := 0) rfl; have c1_1 := (hS.2.1).at_ (j := 1) rfl; have c1_2 := (hS.2.1).at_ (j := 2) rfl; clear hS; go_simp; try with_reducible rfl)); try simp only [ptl]
 refine tk (i := 3) (oi := ⟨some 25, _, _, _, _, _⟩) (v := ?_) rfl hHeld ?_ ?_; rotate_left; (focus (intro _ _; go_simp; try with_reducible rfl)); try simp only [ptl]
 refine tk (i := 4) (oi := ⟨some 26, _, _, _, _, _⟩) (v := ?_) rfl hHeld ?_ ?_; rotate_left; (focus (intro W hS; have c0_0 := (hS.1).at_ (j := 0) rfl; have c0_1 := (hS.1).at_ (j := 1) rfl; have c0_2 := (hS.1).at_ (j := 2) rfl; have c0_3 := (hS.1).at_ (j := 3) rfl; have c1_0 := (hS.2.1).at_ (j := 0) rfl; have c1_1 := (hS.2.1).at_ (j := 1) rfl; have c1_2 := (hS.2.1).at_ (j := 2) rfl; clear hS; go_simp; try with_reducible rfl)); try simp only [ptl]
 refine rd1 (i := 5) (o := ⟨some 27, _, _, _, _, _⟩) rfl (fun K hK => ?_)
 go_simp
 have GL := box_new (x0) 3 #[.int .i64 ((kb : Int) + 1)]
 have hb1 := (Below.refl (x0).heap.size (x0)).alloc (Nat.le_refl _) (.cells #[.int .i64 ((kb : Int) + 1)] 3)
 have LL : w.heap.size ≤ (x0).heap.size := by have := (hHeld.1).lt; have := (hHeld.2.1).lt; have := (hHeld.2.2).size; omega
 have M0L : w.heap.size < (x0).heap.size := (hHeld.1).lt
 have M1L : (w.heap.size + 1) < (x0).heap.size := (hHeld.2.1).lt
 replace GV := GV.new hb1
 replace GB := GB.new hb1
 generalize (x0).alloc (.cells #[.int .i64 ((kb : Int) + 1)] 3) = x1 at hb1 GL GV GB ⊢
 generalize hg : (x0).heap.size = gL at GL LL M0L M1L ⊢
 clear hg
 refine hK.out _ _ ⟨hHeld.1.new hb1, hHeld.2.1.new hb1, Chg.trans hHeld.2.2 (chg_of_new hb1)⟩ (fun hHeld' => ?_)
 clear hK K hHeld hb1; have hHeld := hHeld'; clear hHeld'
 try simp only [ptl]
 refine rd1 (i := 6) (o := ⟨some 28, _, _, _, _, _⟩) rfl (fun K hK => ?_)
 go_simp
 refine Calls.mono (says_of_same (CL.out _ _ GL)) ?_
 rintro e x2 ⟨rfl, hb1⟩
 replace GV := GV.new hb1
 replace GB := GB.new hb1
 replace GL := GL.new hb1
 refine hK.out _ _ ⟨hHeld.1.new hb1, hHeld.2.1.new hb1, Chg.trans hHeld.2.2 (chg_of_new hb1)⟩ (fun hHeld' => ?_)
 clear hK K hHeld hb1; have hHeld := hHeld'; clear hHeld'
 try simp only [ptl]
 refine tk (i := 7) (oi := ⟨some 29, _, _, _, _, _⟩) (v := ?_) rfl hHeld ?_ ?_; rotate_left; (focus (intro _ _; go_simp; try with_reducible rfl)); try simp only [ptl]
 refine rd1 (i := 8) (o := ⟨none, _, _, _, _, _⟩) rfl (fun K hK => ?_)
 have hc0 := GB.cell hka
 have hf0 := GB.frozen ka
 go_simp
 clear hc0 hf0
 replace GV := GV.far (q := gb) (k := ka) (by omega) (.int .i64 (lz))
 replace GB := GB.put hka HLl.out (lz)
 refine hK.out _ _ ⟨hHeld.1.chg (chg_one (Chg.refl gv (gb + 1) _) (by omega) (by omega) _) (by omega), hHeld.2.1.chg (chg_one (Chg.refl gv (gb + 1) _) (by omega) (by omega) _) (by omega), chg_one hHeld.2.2 (by omega) (by omega) _⟩ (fun hHeld' => ?_)
 clear hK K hHeld; have hHeld := hHeld'; clear hHeld'
 try simp only [ptl]
 refine wpAnyH_done (by kernel_rfl) ?_ _
 replace KA := Lib.hid hHeld.1
 replace KC := Lib.hid hHeld.2.1
 replace HC := Lib.hid hHeld.2.2
 replace GVx := Lib.hid GV
 replace GBx := Lib.hid GB
 clear hHeld GV GB
 go_wp2_with (refine wpList_store_row rfl 47 _ _ rfl (w.heap.size + 1) #[.int .i64 0, .int .i64 0, .int .i64 0] rfl rfl 47 _ KC.out (by kernel_rfl) (by kernel_rfl) (by kernel_rfl) ?_)
 have e0 := (box_row (cs := #[.int .i64 0, .int .i64 0, .int .i64 0]) KC.out).at_ (j := 0) rfl
 have e1 := (box_row (cs := #[.int .i64 0, .int .i64 0, .int .i64 0]) KC.out).at_ (j := 1) rfl
 have e2 := (box_row (cs := #[.int .i64 0, .int .i64 0, .int .i64 0]) KC.out).at_ (j := 2) rfl
 exact bodyPost_ret (v := .tuple #[.agg #[.int .i64 0, .int .i64 0, .int .i64 0], .bool false]) (by simp [results, Try.results81, go_sem, e0, e1, e2]) rfl ⟨rfl, irow_row GVx.out _ (by omega), irow_row GBx.out _ (by omega), chg_row_new HC.out (by omega) _⟩
set_option maxHeartbeats 16000000 in
theorem st_2 (o : TOp) (vals : List Int) (A : Option Addr) (n c lo hi gv cv gb cb : Nat) (v b : List Int) (w : World) (hn : n ≤ 1048576) (hr : Rd w lo hi 1 A n (i64s vals)) (hhi : hi ≤ gv) (ho : mOp o = true) (hk : o.f0 = 2) (hv : v.length = 6 ∧ ∀ z ∈ v, 0 ≤ z ∧ z ≤ 999) (hb : b.length = 6 ∧ ∀ z ∈ b, mIsLabel z = true) (hV : IRow w gv cv v) (hB : IRow w gb cb b) (hg : gv < gb) :
  Calls Try.prog 81 #[.agg #[.int .i64 o.f0, .int .i64 o.f1, .int .i64 o.f2, .int .i64 o.f3], .slice A n c, .slice (some ⟨gv, 0, none⟩) 6 cv, .slice (some ⟨gb, 0, none⟩) 6 cb] w (fun e w' => e = .returned (.tuple #[.agg #[.int .i64 (mSs o v b).f0, .int .i64 (mSs o v b).f1, .int .i64 (mSs o v b).f2], .bool (o.f0 == 5)]) ∧ IRow w' gv cv (mStV o vals v) ∧ IRow w' gb cb (mStB o b) ∧ Chg gv (gb + 1) w w') := by
 obtain ⟨h1, h2, h3⟩ := mOp_2 ho hk
 obtain ⟨ka, e1, hka⟩ := mReg_n h1
 have EV : mStV o vals v = v.set ka o.f2 := by unfold mStV; rw [if_neg (by omega), if_pos hk, e1]; rfl
 have EB : mStB o b = b.set ka 0 := by unfold mStB; rw [if_neg (by omega), if_pos hk, e1]; rfl
 have ES : mSs o v b = ⟨0, 0, 0⟩ := by unfold mSs; rw [if_neg (by omega)]
 have E5 : (o.f0 == 5) = false := by simp; omega
 rw [EV, EB, ES, E5, hk, e1]
 have hki : (ka : Int) < 6 := by omega
 clear EV EB ES E5 h1 h2 h3 e1
 have HVl := Lib.hid hv.1
 have HLl := Lib.hid hb.1
 have hgs := hB.lt
 have hgw := hV.lt
 have KA := Lib.hid ((box_new w 49 #[.int .i64 2, .int .i64 (ka : Int), .int .i64 o.f2, .int .i64 o.f3]).alloc_ (.cells #[.int .i64 0, .int .i64 0, .int .i64 0] 47))
 have KC := Lib.hid (show BoxAt ((w.alloc (.cells #[.int .i64 2, .int .i64 (ka : Int), .int .i64 o.f2, .int .i64 o.f3] 49)).alloc (.cells #[.int .i64 0, .int .i64 0, .int .i64 0] 47)) (w.heap.size + 1) 47 #[.int .i64 0, .int .i64 0, .int .i64 0] by simpa using box_new (w.alloc (.cells #[.int .i64 2, .int .i64 (ka : Int), .int .i64 o.f2, .int .i64 o.f3] 49)) 47 #[.int .i64 0, .int .i64 0, .int .i64 0])
 have HC := Lib.hid (((Chg.refl gv (gb + 1) w).alloc (.cells #[.int .i64 2, .int .i64 (ka : Int), .int .i64 o.f2, .int .i64 o.f3] 49)).alloc (.cells #[.int .i64 0, .int .i64 0, .int .i64 0] 47))
 have GVx := Lib.hid (show IRow ((w.alloc (.cells #[.int .i64 2, .int .i64 (ka : Int), .int .i64 o.f2, .int .i64 o.f3] 49)).alloc (.cells #[.int .i64 0, .int .i64 0, .int .i64 0] 47)) gv cv v from (hV.alloc _).alloc _)
 have GBx := Lib.hid (show IRow ((w.alloc (.cells #[.int .i64 2, .int .i64 (ka : Int), .int .i64 o.f2, .int .i64 o.f3] 49)).alloc (.cells #[.int .i64 0, .int .i64 0, .int .i64 0] 47)) gb cb b from (hB.alloc _).alloc _)
 clear hr hv hb hV hB ho hk hn
 go_enter Try.func81, Try.ntmps81
 go_upto_region 6 with fail
 generalize ((w.alloc (.cells #[.int .i64 2, .int .i64 (ka : Int), .int .i64 o.f2, .int .i64 o.f3] 49)).alloc (.cells #[.int .i64 0, .int .i64 0, .int .i64 0] 47)) = wx at KA KC HC GVx GBx ⊢
 have ka0 := KA.out.at_ (j := 0) rfl
 have ka1 := KA.out.at_ (j := 1) rfl
 have ka2 := KA.out.at_ (j := 2) rfl
 have ka3 := KA.out.at_ (j := 3) rfl
 have v0 := GVx.out.cell hka
 have v1 := GVx.out.frozen ka
 go_upto_region 7 with fail
 clear v0 v1
 clear ka0 ka1 ka2 ka3
 replace KA := Lib.hid (KA.out.chg (chg_one (k := ka) (Chg.refl gv (gb + 1) _) (q := gv) (by omega) (by omega) (.int .i64 (o.f2))) (by omega))
 replace KC := Lib.hid (KC.out.chg (chg_one (k := ka) (Chg.refl gv (gb + 1) _) (q := gv) (by omega) (by omega) (.int .i64 (o.f2))) (by omega))
 replace HC := Lib.hid (chg_one (k := ka) HC.out (q := gv) (by omega) (by omega) (.int .i64 (o.f2)))
 replace GBx := Lib.hid (GBx.out.far (q := gv) (k := ka) (by omega) (.int .i64 (o.f2)))
 replace GVx := Lib.hid (GVx.out.put hka HVl.out (o.f2))
 generalize World.setCell wx ⟨gv, ka, none⟩ (.int .i64 o.f2) = wy at KA KC HC GVx GBx ⊢
 have ka0 := KA.out.at_ (j := 0) rfl
 have ka1 := KA.out.at_ (j := 1) rfl
 have ka2 := KA.out.at_ (j := 2) rfl
 have ka3 := KA.out.at_ (j := 3) rfl
 have v0 := GBx.out.cell hka
 have v1 := GBx.out.frozen ka
 go_upto_region 17 with fail
 clear v0 v1
 clear ka0 ka1 ka2 ka3
 replace KA := Lib.hid (KA.out.chg (chg_one (k := ka) (Chg.refl gv (gb + 1) _) (q := gb) (by omega) (by omega) (.int .i64 (0))) (by omega))
 replace KC := Lib.hid (KC.out.chg (chg_one (k := ka) (Chg.refl gv (gb + 1) _) (q := gb) (by omega) (by omega) (.int .i64 (0))) (by omega))
 replace HC := Lib.hid (chg_one (k := ka) HC.out (q := gb) (by omega) (by omega) (.int .i64 (0)))
 replace GVx := Lib.hid (GVx.out.far (q := gb) (k := ka) (by omega) (.int .i64 (0)))
 replace GBx := Lib.hid (GBx.out.put hka HLl.out (0))
 generalize World.setCell wy ⟨gb, ka, none⟩ (.int .i64 0) = wz at KA KC HC GVx GBx ⊢
 go_wp2_with (refine wpList_store_row rfl 47 _ _ rfl (w.heap.size + 1) #[.int .i64 0, .int .i64 0, .int .i64 0] rfl rfl 47 _ KC.out (by kernel_rfl) (by kernel_rfl) (by kernel_rfl) ?_)
 have e0 := (box_row (cs := #[.int .i64 0, .int .i64 0, .int .i64 0]) KC.out).at_ (j := 0) rfl
 have e1 := (box_row (cs := #[.int .i64 0, .int .i64 0, .int .i64 0]) KC.out).at_ (j := 1) rfl
 have e2 := (box_row (cs := #[.int .i64 0, .int .i64 0, .int .i64 0]) KC.out).at_ (j := 2) rfl
 exact bodyPost_ret (v := .tuple #[.agg #[.int .i64 0, .int .i64 0, .int .i64 0], .bool false]) (by simp [results, Try.results81, go_sem, e0, e1, e2]) rfl ⟨rfl, irow_row GVx.out _ (by omega), irow_row GBx.out _ (by omega), chg_row_new HC.out (by omega) _⟩
set_option maxHeartbeats 16000000 in
theorem st_3 (o : TOp) (vals : List Int) (A : Option Addr) (n c lo hi gv cv gb cb : Nat) (v b : List Int) (w : World) (hn : n ≤ 1048576) (hr : Rd w lo hi 1 A n (i64s vals)) (hhi : hi ≤ gv) (ho : mOp o = true) (hk : o.f0 = 3) (hv : v.length = 6 ∧ ∀ z ∈ v, 0 ≤ z ∧ z ≤ 999) (hb : b.length = 6 ∧ ∀ z ∈ b, mIsLabel z = true) (hV : IRow w gv cv v) (hB : IRow w gb cb b) (hg : gv < gb) :
  Calls Try.prog 81 #[.agg #[.int .i64 o.f0, .int .i64 o.f1, .int .i64 o.f2, .int .i64 o.f3], .slice A n c, .slice (some ⟨gv, 0, none⟩) 6 cv, .slice (some ⟨gb, 0, none⟩) 6 cb] w (fun e w' => e = .returned (.tuple #[.agg #[.int .i64 (mSs o v b).f0, .int .i64 (mSs o v b).f1, .int .i64 (mSs o v b).f2], .bool (o.f0 == 5)]) ∧ IRow w' gv cv (mStV o vals v) ∧ IRow w' gb cb (mStB o b) ∧ Chg gv (gb + 1) w w') := by
 obtain ⟨qa, qb, qc⟩ := mOp_34 ho (.inl hk)
 obtain ⟨ka, e1, hka⟩ := mReg_n qa
 obtain ⟨kb, e2, hkb⟩ := mReg_n qb
 obtain ⟨kc, e3, hkc⟩ := mReg_n qc
 rw [e1] at qa
 rw [e2] at qb
 rw [e3] at qc
 obtain ⟨va, eva⟩ : ∃ z, Hid (v.getD ka 0 = z) := ⟨_, Lib.hid rfl⟩
 obtain ⟨ba, ela⟩ : ∃ z, Hid (b.getD ka 0 = z) := ⟨_, Lib.hid rfl⟩
 have hva : 0 ≤ va ∧ va ≤ 999 := by have h0 := gI_in (P := fun z => 0 ≤ z ∧ z ≤ 999) hv (k := (ka : Int)) qa; rw [← eva.out]; simpa [gI] using h0
 have hba : mIsLabel ba = true := by have h0 := gI_in (P := fun z => mIsLabel z = true) hb (k := (ka : Int)) qa; rw [← ela.out]; simpa [gI] using h0
 have hkia : (ka : Int) < 6 := by omega
 obtain ⟨vb, evb⟩ : ∃ z, Hid (v.getD kb 0 = z) := ⟨_, Lib.hid rfl⟩
 obtain ⟨bb, elb⟩ : ∃ z, Hid (b.getD kb 0 = z) := ⟨_, Lib.hid rfl⟩
 have hvb : 0 ≤ vb ∧ vb ≤ 999 := by have h0 := gI_in (P := fun z => 0 ≤ z ∧ z ≤ 999) hv (k := (kb : Int)) qb; rw [← evb.out]; simpa [gI] using h0
 have hbb : mIsLabel bb = true := by have h0 := gI_in (P := fun z => mIsLabel z = true) hb (k := (kb : Int)) qb; rw [← elb.out]; simpa [gI] using h0
 have hkib : (kb : Int) < 6 := by omega
 obtain ⟨vc, evc⟩ : ∃ z, Hid (v.getD kc 0 = z) := ⟨_, Lib.hid rfl⟩
 obtain ⟨bc, elc⟩ : ∃ z, Hid (b.getD kc 0 = z) := ⟨_, Lib.hid rfl⟩
 have hvc : 0 ≤ vc ∧ vc ≤ 999 := by have h0 := gI_in (P := fun z => 0 ≤ z ∧ z ≤ 999) hv (k := (kc : Int)) qc; rw [← evc.out]; simpa [gI] using h0
 have hbc : mIsLabel bc = true := by have h0 := gI_in (P := fun z => mIsLabel z = true) hb (k := (kc : Int)) qc; rw [← elc.out]; simpa [gI] using h0
 have hkic : (kc : Int) < 6 := by omega
 have EV : mStV o vals v = v.set ka ((vb + vc) % 1000) := by unfold mStV; rw [if_neg (by omega), if_neg (by omega), if_pos hk, e1, e2, e3, ← evb.out, ← evc.out]; rfl
 have EB : mStB o b = b.set ka (mJoin bb bc) := by unfold mStB; rw [if_neg (by omega), if_neg (by omega), if_pos hk, e1, e2, e3, ← elb.out, ← elc.out]; rfl
 have ES : mSs o v b = ⟨0, 0, 0⟩ := by unfold mSs; rw [if_neg (by omega)]
 have E5 : (o.f0 == 5) = false := by simp; omega
 rw [EV, EB, ES, E5, hk, e1, e2, e3]
 have hw : IntKind.i64.wrap (vb + vc) = vb + vc := IntWalk.i64_in _ (by omega)
 have htm : Int.tmod (vb + vc) 1000 = (vb + vc) % 1000 := Int.tmod_eq_emod_of_nonneg (by omega)
 have CJ := Lib.hid (fun W => spec_JoinLabels bb bc W (lab_wf hbb) (lab_wf hbc))
 generalize mJoin bb bc = lz at CJ ⊢
 generalize (vb + vc) % 1000 = vz at htm ⊢
 clear EV EB ES E5 e1 e2 e3 hva hvb hvc hba hbb hbc qa qb qc eva ela
 have HVl := Lib.hid hv.1
 have HLl := Lib.hid hb.1
 have hgs := hB.lt
 have hgw := hV.lt
 have KA := Lib.hid ((box_new w 49 #[.int .i64 3, .int .i64 (ka : Int), .int .i64 (kb : Int), .int .i64 (kc : Int)]).alloc_ (.cells #[.int .i64 0, .int .i64 0, .int .i64 0] 47))
 have KC := Lib.hid (show BoxAt ((w.alloc (.cells #[.int .i64 3, .int .i64 (ka : Int), .int .i64 (kb : Int), .int .i64 (kc : Int)] 49)).alloc (.cells #[.int .i64 0, .int .i64 0, .int .i64 0] 47)) (w.heap.size + 1) 47 #[.int .i64 0, .int .i64 0, .int .i64 0] by simpa using box_new (w.alloc (.cells #[.int .i64 3, .int .i64 (ka : Int), .int .i64 (kb : Int), .int .i64 (kc : Int)] 49)) 47 #[.int .i64 0, .int .i64 0, .int .i64 0])
 have HC := Lib.hid (((Chg.refl gv (gb + 1) w).alloc (.cells #[.int .i64 3, .int .i64 (ka : Int), .int .i64 (kb : Int), .int .i64 (kc : Int)] 49)).alloc (.cells #[.int .i64 0, .int .i64 0, .int .i64 0] 47))
 have GVx := Lib.hid (show IRow ((w.alloc (.cells #[.int .i64 3, .int .i64 (ka : Int), .int .i64 (kb : Int), .int .i64 (kc : Int)] 49)).alloc (.cells #[.int .i64 0, .int .i64 0, .int .i64 0] 47)) gv cv v from (hV.alloc _).alloc _)
 have GBx := Lib.hid (show IRow ((w.alloc (.cells #[.int .i64 3, .int .i64 (ka : Int), .int .i64 (kb : Int), .int .i64 (kc : Int)] 49)).alloc (.cells #[.int .i64 0, .int .i64 0, .int .i64 0] 47)) gb cb b from (hB.alloc _).alloc _)
 clear hr hv hb hV hB ho hk hn
 go_enter Try.func81, Try.ntmps81
 go_upto_region 9 with fail
 have GV : IRow (World.drew _) gv cv _ := GVx.out.drw
 have GB : IRow (World.drew _) gb cb _ := GBx.out.drw
 refine wp_region_held_drew (S := fun w' => BoxAt w' w.heap.size 49 #[.int .i64 3, .int .i64 (ka : Int), .int .i64 (kb : Int), .int .i64 (kc : Int)] ∧ BoxAt w' (w.heap.size + 1) 47 #[.int .i64 0, .int .i64 0, .int .i64 0] ∧ Chg gv (gb + 1) w w') (by kernel_rfl) ?_ (fun hHeld => ?_)
 ·
  exact ⟨KA.out.drw, KC.out.drw, HC.out.drewN 1⟩
 generalize (World.drew _) = x0 at hHeld GV GB ⊢
 refine tk (i := 0) (oi := ⟨some 44, _, _, _, _, _⟩) (v := ?_) rfl hHeld ?_ ?_; rotate_left; (focus (intro _ _; go_simp; try with_reducible rfl)); try simp only [ptl]
 refine tk (i := 1) (oi := ⟨some 45, _, _, _, _, _⟩) (v := ?_) rfl hHeld ?_ ?_; rotate_left; (focus (intro _ _; go_simp; try with_reducible rfl)); try simp only [ptl]
 refine tk (i := 2) (oi := ⟨some 46, _, _, _, _, _⟩) (v := ?_) rfl hHeld ?_ ?_; rotate_left; (focus (intro W hS; have c0_0 := (hS.1).at_ (j := 0) rfl; have c0_1 := (hS.1).at_ (j := 1) rfl; have c0_2 := (hS.1).at_ (j := 2) rfl; have c0_3 := (hS.1).at_ (j := 3) rfl; have c1_0 := (hS.2.1).at_ (j := 0) rfl; have c1_1 := (hS.2.1).at_ (j := 1) rfl; have c1_2 := (hS.2.1).at_ (j := 2) rfl; clear hS; go_simp; try with_reducible rfl)); try simp only [ptl]
 refine tk (i := 3) (oi := ⟨some 47, _, _, _, _, _⟩) (v := ?_) rfl hHeld ?_ ?_; rotate_left; (focus (intro _ _; go_simp; try with_reducible rfl)); try simp only [ptl]
 refine tk (i := 4) (oi := ⟨some 48, _, _, _, _, _⟩) (v := ?_) rfl hHeld ?_ ?_; rotate_left; (focus (intro _ _; go_simp; try with_reducible rfl)); try simp only [ptl]
 refine tk (i := 5) (oi := ⟨some 49, _, _, _, _, _⟩) (v := ?_) rfl hHeld ?_ ?_; rotate_left; (focus (intro W hS; have c0_0 := (hS.1).at_ (j := 0) rfl; have c0_1 := (hS.1).at_ (j := 1) rfl; have c0_2 := (hS.1).at_ (j := 2) rfl; have c0_3 := (hS.1).at_ (j := 3) rfl; have c1_0 := (hS.2.1).at_ (j := 0) rfl; have c1_1 := (hS.2.1).at_ (j := 1) rfl; have c1_2 := (hS.2.1).at_ (j := 2) rfl; clear hS; go_simp; try with_reducible rfl)); try simp only [ptl]
 refine tk (i := 6) (oi := ⟨some 50, _, _, _, _, _⟩) (v := ?_) rfl hHeld ?_ ?_; rotate_left; (focus (intro _ _; go_simp; try with_reducible rfl)); try simp only [ptl]
 refine tk (i := 8) (oi := ⟨some 52, _, _, _, _, _⟩) (v := ?_) rfl hHeld ?_ ?_; rotate_left; (focus (intro _ _; go_simp; try with_reducible rfl)); try simp only [ptl]
 refine tk (i := 9) (oi := ⟨some 53, _, _, _, _, _⟩) (v := ?_) rfl hHeld ?_ ?_; rotate_left; (focus (intro _ _; go_simp; try with_reducible rfl)); try simp only [ptl]
 refine tk (i := 10) (oi := ⟨some 54, _, _, _, _, _⟩) (v := ?_) rfl hHeld ?_ ?_; rotate_left; (focus (intro W hS; have c0_0 := (hS.1).at_ (j := 0) rfl; have c0_1 := (hS.1).at_ (j := 1) rfl; have c0_2 := (hS.1).at_ (j := 2) rfl; have c0_3 := (hS.1).at_ (j := 3) rfl; have c1_0 := (hS.2.1).at_ (j := 0) rfl; have c1_1 := (hS.2.1).at_ (j := 1) rfl; have c1_2 := (hS.2.1).at_ (j := 2) rfl; clear hS; go_simp; try with_reducible rfl)); try simp only [ptl]
 refine tk (i := 11) (oi := ⟨some 55, _, _, _, _, _⟩) (v := ?_) rfl hHeld ?_ ?_; rotate_left; (focus (intro _ _; go_simp; try with_reducible rfl)); try simp only [ptl]
 refine wpAnyH_ready (rs := [7, 12]) (by kernel_rfl) (by simp) ?_
 refine AllReadyH.cons (o := ⟨some 51, _, _, _, _, _⟩) rfl (fun K hK => ?_) ?_
 ·
  have hc0 := GV.cell hkb
  rw [evb.out] at hc0
  go_simp
  clear hc0
  refine hK.out _ _ hHeld (fun hHeld' => ?_)
  clear hK K hHeld; have hHeld := hHeld'; clear hHeld'
  try simp only [ptl]
  refine rd1 (i := 12) (o := ⟨some 56, _, _, _, _, _⟩) rfl (fun K hK => ?_)
  have hc0 := GV.cell hkc
  rw [evc.out] at hc0
  go_simp
  clear hc0
  refine hK.out _ _ hHeld (fun hHeld' => ?_)
  clear hK K hHeld; have hHeld := hHeld'; clear hHeld'
  try simp only [ptl]
  refine tk (i := 13) (oi := ⟨some 57, _, _, _, _, _⟩) (v := ?_) rfl hHeld ?_ ?_; rotate_left; (focus (intro _ _; go_simp; try with_reducible rfl)); try simp only [ptl]
  refine tk (i := 14) (oi := ⟨some 58, _, _, _, _, _⟩) (v := ?_) rfl hHeld ?_ ?_; rotate_left; (focus (intro _ _; go_simp; try with_reducible rfl)); try simp only [ptl]
  refine tk (i := 15) (oi := ⟨some 59, _, _, _, _, _⟩) (v := ?_) rfl hHeld ?_ ?_; rotate_left; (focus (intro _ _; go_simp; try with_reducible rfl)); try simp only [ptl]
  refine rd1 (i := 16) (o := ⟨none, _, _, _, _, _⟩) rfl (fun K hK => ?_)
  have hc0 := GV.cell hka
  have hf0 := GV.frozen ka
  go_simp
  clear hc0 hf0
  replace GB := GB.far (q := gv) (k := ka) (by omega) (.int .i64 (vz))
  replace GV := GV.put hka HVl.out (vz)
  refine hK.out _ _ ⟨hHeld.1.chg (chg_one (Chg.refl gv (gb + 1) _) (by omega) (by omega) _) (by omega), hHeld.2.1.chg (chg_one (Chg.refl gv (gb + 1) _) (by omega) (by omega) _) (by omega), chg_one hHeld.2.2 (by omega) (by omega) _⟩ (fun hHeld' => ?_)
  clear hK K hHeld; have hHeld := hHeld'; clear hHeld'
  try simp only [ptl]
  refine wpAnyH_done (by kernel_rfl) ?_ _
  replace KA := Lib.hid hHeld.1
  replace KC := Lib.hid hHeld.2.1
  replace HC := Lib.hid hHeld.2.2
  replace GVx := Lib.hid GV
  replace GBx := Lib.hid GB
  clear hHeld GV GB
  go_upto_region 10 with fail
  have GV : IRow (World.drew _) gv cv _ := GVx.out.drw
  have GB : IRow (World.drew _) gb cb _ := GBx.out.drw
  refine wp_region_held_drew (S := fun w' => BoxAt w' w.heap.size 49 #[.int .i64 3, .int .i64 (ka : Int), .int .i64 (kb : Int), .int .i64 (kc : Int)] ∧ BoxAt w' (w.heap.size + 1) 47 #[.int .i64 0, .int .i64 0, .int .i64 0] ∧ Chg gv (gb + 1) w w') (by kernel_rfl) ?_ (fun hHeld => ?_)
  ·
   exact ⟨KA.out.drw, KC.out.drw, HC.out.drewN 1⟩
  generalize (World.drew _) = x0 at hHeld GV GB ⊢
  refine tk (i := 0) (oi := ⟨some 60, _, _, _, _, _⟩) (v := ?_) rfl hHeld ?_ ?_; rotate_left; (focus (intro _ _; go_simp; try with_reducible rfl)); try simp only [ptl]
  refine tk (i := 1) (oi := ⟨some 61, _, _, _, _, _⟩) (v := ?_) rfl hHeld ?_ ?_; rotate_left; (focus (intro _ _; go_simp; try with_reducible rfl)); try simp only [ptl]
  refine tk (i := 2) (oi := ⟨some 62, _, _, _, _, _⟩) (v := ?_) rfl hHeld ?_ ?_; rotate_left; (focus (intro W hS; have c0_0 := (hS.1).at_ (j := 0) rfl; have c0_1 := (hS.1).at_ (j := 1) rfl; have c0_2 := (hS.1).at_ (j := 2) rfl; have c0_3 := (hS.1).at_ (j := 3) rfl; have c1_0 := (hS.2.1).at_ (j := 0) rfl; have c1_1 := (hS.2.1).at_ (j := 1) rfl; have c1_2 := (hS.2.1).at_ (j := 2) rfl; clear hS; go_simp; try with_reducible rfl)); try simp only [ptl]
  refine tk (i := 3) (oi := ⟨some 63, _, _, _, _, _⟩) (v := ?_) rfl hHeld ?_ ?_; rotate_left; (focus (intro _ _; go_simp; try with_reducible rfl)); try simp only [ptl]
  refine tk (i := 4) (oi := ⟨some 64, _, _, _, _, _⟩) (v := ?_) rfl hHeld ?_ ?_; rotate_left; (focus (intro _ _; go_simp; try with_reducible rfl)); try simp only [ptl]
  refine tk (i := 5) (oi := ⟨some 65, _, _, _, _, _⟩) (v := ?_) rfl hHeld ?_ ?_; rotate_left; (focus (intro W hS; have c0_0 := (hS.1).at_ (j := 0) rfl; have c0_1 := (hS.1).at_ (j := 1) rfl; have c0_2 := (hS.1).at_ (j := 2) rfl; have c0_3 := (hS.1).at_ (j := 3) rfl; have c1_0 := (hS.2.1).at_ (j := 0) rfl; have c1_1 := (hS.2.1).at_ (j := 1) rfl; have c1_2 := (hS.2.1).at_ (j := 2) rfl; clear hS; go_simp; try with_reducible rfl)); try simp only [ptl]
  refine tk (i := 6) (oi := ⟨some 66, _, _, _, _, _⟩) (v := ?_) rfl hHeld ?_ ?_; rotate_left; (focus (intro _ _; go_simp; try with_reducible rfl)); try simp only [ptl]
  refine tk (i := 8) (oi := ⟨some 68, _, _, _, _, _⟩) (v := ?_) rfl hHeld ?_ ?_; rotate_left; (focus (intro _ _; go_simp; try with_reducible rfl)); try simp only [ptl]
  refine tk (i := 9) (oi := ⟨some 69, _, _, _, _, _⟩) (v := ?_) rfl hHeld ?_ ?_; rotate_left; (focus (intro _ _; go_simp; try with_reducible rfl)); try simp only [ptl]
  refine tk (i := 10) (oi := ⟨some 70, _, _, _, _, _⟩) (v := ?_) rfl hHeld ?_ ?_; rotate_left; (focus (intro W hS; have c0_0 := (hS.1).at_ (j := 0) rfl; have c0_1 := (hS.1).at_ (j := 1) rfl; have c0_2 := (hS.1).at_ (j := 2) rfl; have c0_3 := (hS.1).at_ (j := 3) rfl; have c1_0 := (hS.2.1).at_ (j := 0) rfl; have c1_1 := (hS.2.1).at_ (j := 1) rfl; have c1_2 := (hS.2.1).at_ (j := 2) rfl; clear hS; go_simp; try with_reducible rfl)); try simp only [ptl]
  refine tk (i := 11) (oi := ⟨some 71, _, _, _, _, _⟩) (v := ?_) rfl hHeld ?_ ?_; rotate_left; (focus (intro _ _; go_simp; try with_reducible rfl)); try simp only [ptl]
  refine wpAnyH_ready (rs := [7, 12]) (by kernel_rfl) (by simp) ?_
  refine AllReadyH.cons (o := ⟨some 67, _, _, _, _, _⟩) rfl (fun K hK => ?_) ?_
  ·
   have hc0 := GB.cell hkb
   rw [elb.out] at hc0
   go_simp
   clear hc0
   refine hK.out _ _ hHeld (fun hHeld' => ?_)
   clear hK K hHeld; have hHeld := hHeld'; clear hHeld'
   try simp only [ptl]
   refine rd1 (i := 12) (o := ⟨some 72, _, _, _, _, _⟩) rfl (fun K hK => ?_)
   have hc0 := GB.cell hkc
   rw [elc.out] at hc0
   go_simp
   clear hc0
   refine hK.out _ _ hHeld (fun hHeld' => ?_)
   clear hK K hHeld; have hHeld := hHeld'; clear hHeld'
   try simp only [ptl]
   refine rd1 (i := 13) (o := ⟨some 73, _, _, _, _, _⟩) rfl (fun K hK => ?_)
   go_simp
   refine Calls.mono (CJ.out _) ?_
   rintro e x1 ⟨rfl, hb1⟩
   replace GV := GV.new hb1
   replace GB := GB.new hb1
   refine hK.out _ _ ⟨hHeld.1.new hb1, hHeld.2.1.new hb1, Chg.trans hHeld.2.2 (chg_of_new hb1)⟩ (fun hHeld' => ?_)
   clear hK K hHeld hb1; have hHeld := hHeld'; clear hHeld'
   try simp only [ptl]
   refine tk (i := 14) (oi := ⟨some 74, _, _, _, _, _⟩) (v := ?_) rfl hHeld ?_ ?_; rotate_left; (focus (intro _ _; go_simp; try with_reducible rfl)); try simp only [ptl]
   refine rd1 (i := 15) (o := ⟨none, _, _, _, _, _⟩) rfl (fun K hK => ?_)
   have hc0 := GB.cell hka
   have hf0 := GB.frozen ka
   go_simp
   clear hc0 hf0
   replace GV := GV.far (q := gb) (k := ka) (by omega) (.int .i64 (lz))
   replace GB := GB.put hka HLl.out (lz)
   refine hK.out _ _ ⟨hHeld.1.chg (chg_one (Chg.refl gv (gb + 1) _) (by omega) (by omega) _) (by omega), hHeld.2.1.chg (chg_one (Chg.refl gv (gb + 1) _) (by omega) (by omega) _) (by omega), chg_one hHeld.2.2 (by omega) (by omega) _⟩ (fun hHeld' => ?_)
   clear hK K hHeld; have hHeld := hHeld'; clear hHeld'
   try simp only [ptl]
   refine wpAnyH_done (by kernel_rfl) ?_ _
   replace KA := Lib.hid hHeld.1
   replace KC := Lib.hid hHeld.2.1
   replace HC := Lib.hid hHeld.2.2
   replace GVx := Lib.hid GV
   replace GBx := Lib.hid GB
   clear hHeld GV GB
   go_wp2_with (refine wpList_store_row rfl 47 _ _ rfl (w.heap.size + 1) #[.int .i64 0, .int .i64 0, .int .i64 0] rfl rfl 47 _ KC.out (by kernel_rfl) (by kernel_rfl) (by kernel_rfl) ?_)
   have e0 := (box_row (cs := #[.int .i64 0, .int .i64 0, .int .i64 0]) KC.out).at_ (j := 0) rfl
   have e1 := (box_row (cs := #[.int .i64 0, .int .i64 0, .int .i64 0]) KC.out).at_ (j := 1) rfl
   have e2 := (box_row (cs := #[.int .i64 0, .int .i64 0, .int .i64 0]) KC.out).at_ (j := 2) rfl
   exact bodyPost_ret (v := .tuple #[.agg #[.int .i64 0, .int .i64 0, .int .i64 0], .bool false]) (by simp [results, Try.results81, go_sem, e0, e1, e2]) rfl ⟨rfl, irow_row GVx.out _ (by omega), irow_row GBx.out _ (by omega), chg_row_new HC.out (by omega) _⟩
   
  refine AllReadyH.cons (o := ⟨some 72, _, _, _, _, _⟩) rfl (fun K hK => ?_) ?_
  ·
   have hc0 := GB.cell hkc
   rw [elc.out] at hc0
   go_simp
   clear hc0
   refine hK.out _ _ hHeld (fun hHeld' => ?_)
   clear hK K hHeld; have hHeld := hHeld'; clear hHeld'
   try simp only [ptl]
   refine rd1 (i := 7) (o := ⟨some 67, _, _, _, _, _⟩) rfl (fun K hK => ?_)
   have hc0 := GB.cell hkb
   rw [elb.out] at hc0
   go_simp
   clear hc0
   refine hK.out _ _ hHeld (fun hHeld' => ?_)
   clear hK K hHeld; have hHeld := hHeld'; clear hHeld'
   try simp only [ptl]
   refine rd1 (i := 13) (o := ⟨some 73, _, _, _, _, _⟩) rfl (fun K hK => ?_)
   go_simp
   refine Calls.mono (CJ.out _) ?_
   rintro e x1 ⟨rfl, hb1⟩
   replace GV := GV.new hb1
   replace GB := GB.new hb1
   refine hK.out _ _ ⟨hHeld.1.new hb1, hHeld.2.1.new hb1, Chg.trans hHeld.2.2 (chg_of_new hb1)⟩ (fun hHeld' => ?_)
   clear hK K hHeld hb1; have hHeld := hHeld'; clear hHeld'
   try simp only [ptl]
   refine tk (i := 14) (oi := ⟨some 74, _, _, _, _, _⟩) (v := ?_) rfl hHeld ?_ ?_; rotate_left; (focus (intro _ _; go_simp; try with_reducible rfl)); try simp only [ptl]
   refine rd1 (i := 15) (o := ⟨none, _, _, _, _, _⟩) rfl (fun K hK => ?_)
   have hc0 := GB.cell hka
   have hf0 := GB.frozen ka
   go_simp
   clear hc0 hf0
   replace GV := GV.far (q := gb) (k := ka) (by omega) (.int .i64 (lz))
   replace GB := GB.put hka HLl.out (lz)
   refine hK.out _ _ ⟨hHeld.1.chg (chg_one (Chg.refl gv (gb + 1) _) (by omega) (by omega) _) (by omega), hHeld.2.1.chg (chg_one (Chg.refl gv (gb + 1) _) (by omega) (by omega) _) (by omega), chg_one hHeld.2.2 (by omega) (by omega) _⟩ (fun hHeld' => ?_)
   clear hK K hHeld; have hHeld := hHeld'; clear hHeld'
   try simp only [ptl]
   refine wpAnyH_done (by kernel_rfl) ?_ _
   replace KA := Lib.hid hHeld.1
   replace KC := Lib.hid hHeld.2.1
   replace HC := Lib.hid hHeld.2.2
   replace GVx := Lib.hid GV
   replace GBx := Lib.hid GB
   clear hHeld GV GB
   go_wp2_with (refine wpList_store_row rfl 47 _ _ rfl (w.heap.size + 1) #[.int .i64 0, .int .i64 0, .int .i64 0] rfl rfl 47 _ KC.out (by kernel_rfl) (by kernel_rfl) (by kernel_rfl) ?_)
   have e0 := (box_row (cs := #[.int .i64 0, .int .i64 0, .int .i64 0]) KC.out).at_ (j := 0) rfl
   have e1 := (box_row (cs := #[.int .i64 0, .int .i64 0, .int .i64 0]) KC.out).at_ (j := 1) rfl
   have e2 := (box_row (cs := #[.int .i64 0, .int .i64 0, .int .i64 0]) KC.out).at_ (j := 2) rfl
   exact bodyPost_ret (v := .tuple #[.agg #[.int .i64 0, .int .i64 0, .int .i64 0], .bool false]) (by simp [results, Try.results81, go_sem, e0, e1, e2]) rfl ⟨rfl, irow_row GVx.out _ (by omega), irow_row GBx.out _ (by omega), chg_row_new HC.out (by omega) _⟩
   
  exact AllReadyH.nil
  
 refine AllReadyH.cons (o := ⟨some 56, _, _, _, _, _⟩) rfl (fun K hK => ?_) ?_
 ·
  have hc0 := GV.cell hkc
  rw [evc.out] at hc0
  go_simp
  clear hc0
  refine hK.out _ _ hHeld (fun hHeld' => ?_)
  clear hK K hHeld; have hHeld := hHeld'; clear hHeld'
  try simp only [ptl]
  refine rd1 (i := 7) (o := ⟨some 51, _, _, _, _, _⟩) rfl (fun K hK => ?_)
  have hc0 := GV.cell hkb
  rw [evb.out] at hc0
  go_simp
  clear hc0
  refine hK.out _ _ hHeld (fun hHeld' => ?_)
  clear hK K hHeld; have hHeld := hHeld'; clear hHeld'
  try simp only [ptl]
  refine tk (i := 13) (oi := ⟨some 57, _, _, _, _, _⟩) (v := ?_) rfl hHeld ?_ ?_; rotate_left; (focus (intro _ _; go_simp; try with_reducible rfl)); try simp only [ptl]
  refine tk (i := 14) (oi := ⟨some 58, _, _, _, _, _⟩) (v := ?_) rfl hHeld ?_ ?_; rotate_left; (focus (intro _ _; go_simp; try with_reducible rfl)); try simp only [ptl]
  refine tk (i := 15) (oi := ⟨some 59, _, _, _, _, _⟩) (v := ?_) rfl hHeld ?_ ?_; rotate_left; (focus (intro _ _; go_simp; try with_reducible rfl)); try simp only [ptl]
  refine rd1 (i := 16) (o := ⟨none, _, _, _, _, _⟩) rfl (fun K hK => ?_)
  have hc0 := GV.cell hka
  have hf0 := GV.frozen ka
  go_simp
  clear hc0 hf0
  replace GB := GB.far (q := gv) (k := ka) (by omega) (.int .i64 (vz))
  replace GV := GV.put hka HVl.out (vz)
  refine hK.out _ _ ⟨hHeld.1.chg (chg_one (Chg.refl gv (gb + 1) _) (by omega) (by omega) _) (by omega), hHeld.2.1.chg (chg_one (Chg.refl gv (gb + 1) _) (by omega) (by omega) _) (by omega), chg_one hHeld.2.2 (by omega) (by omega) _⟩ (fun hHeld' => ?_)
  clear hK K hHeld; have hHeld := hHeld'; clear hHeld'
  try simp only [ptl]
  refine wpAnyH_done (by kernel_rfl) ?_ _
  replace KA := Lib.hid hHeld.1
  replace KC := Lib.hid hHeld.2.1
  replace HC := Lib.hid hHeld.2.2
  replace GVx := Lib.hid GV
  replace GBx := Lib.hid GB
  clear hHeld GV GB
  go_upto_region 10 with fail
  have GV : IRow (World.drew _) gv cv _ := GVx.out.drw
  have GB : IRow (World.drew _) gb cb _ := GBx.out.drw
  refine wp_region_held_drew (S := fun w' => BoxAt w' w.heap.size 49 #[.int .i64 3, .int .i64 (ka : Int), .int .i64 (kb : Int), .int .i64 (kc : Int)] ∧ BoxAt w' (w.heap.size + 1) 47 #[.int .i64 0, .int .i64 0, .int .i64 0] ∧ Chg gv (gb + 1) w w') (by kernel_rfl) ?_ (fun hHeld => ?_)
  ·
   exact ⟨KA.out.drw, KC.out.drw, HC.out.drewN 1⟩
  generalize (World.drew _) = x0 at hHeld GV GB ⊢
  refine tk (i := 0) (oi := ⟨some 60, _, _, _, _, _⟩) (v := ?_) rfl hHeld ?_ ?_; rotate_left; (focus (intro _ _; go_simp; try with_reducible rfl)); try simp only [ptl]
  refine tk (i := 1) (oi := ⟨some 61, _, _, _, _, _⟩) (v := ?_) rfl hHeld ?_ ?_; rotate_left; (focus (intro _ _; go_simp; try with_reducible rfl)); try simp only [ptl]
  refine tk (i := 2) (oi := ⟨some 62, _, _, _, _, _⟩) (v := ?_) rfl hHeld ?_ ?_; rotate_left; (focus (intro W hS; have c0_0 := (hS.1).at_ (j := 0) rfl; have c0_1 := (hS.1).at_ (j := 1) rfl; have c0_2 := (hS.1).at_ (j := 2) rfl; have c0_3 := (hS.1).at_ (j := 3) rfl; have c1_0 := (hS.2.1).at_ (j := 0) rfl; have c1_1 := (hS.2.1).at_ (j := 1) rfl; have c1_2 := (hS.2.1).at_ (j := 2) rfl; clear hS; go_simp; try with_reducible rfl)); try simp only [ptl]
  refine tk (i := 3) (oi := ⟨some 63, _, _, _, _, _⟩) (v := ?_) rfl hHeld ?_ ?_; rotate_left; (focus (intro _ _; go_simp; try with_reducible rfl)); try simp only [ptl]
  refine tk (i := 4) (oi := ⟨some 64, _, _, _, _, _⟩) (v := ?_) rfl hHeld ?_ ?_; rotate_left; (focus (intro _ _; go_simp; try with_reducible rfl)); try simp only [ptl]
  refine tk (i := 5) (oi := ⟨some 65, _, _, _, _, _⟩) (v := ?_) rfl hHeld ?_ ?_; rotate_left; (focus (intro W hS; have c0_0 := (hS.1).at_ (j := 0) rfl; have c0_1 := (hS.1).at_ (j := 1) rfl; have c0_2 := (hS.1).at_ (j := 2) rfl; have c0_3 := (hS.1).at_ (j := 3) rfl; have c1_0 := (hS.2.1).at_ (j := 0) rfl; have c1_1 := (hS.2.1).at_ (j := 1) rfl; have c1_2 := (hS.2.1).at_ (j := 2) rfl; clear hS; go_simp; try with_reducible rfl)); try simp only [ptl]
  refine tk (i := 6) (oi := ⟨some 66, _, _, _, _, _⟩) (v := ?_) rfl hHeld ?_ ?_; rotate_left; (focus (intro _ _; go_simp; try with_reducible rfl)); try simp only [ptl]
  refine tk (i := 8) (oi := ⟨some 68, _, _, _, _, _⟩) (v := ?_) rfl hHeld ?_ ?_; rotate_left; (focus (intro _ _; go_simp; try with_reducible rfl)); try simp only [ptl]
  refine tk (i := 9) (oi := ⟨some 69, _, _, _, _, _⟩) (v := ?_) rfl hHeld ?_ ?_; rotate_left; (focus (intro _ _; go_simp; try with_reducible rfl)); try simp only [ptl]
  refine tk (i := 10) (oi := ⟨some 70, _, _, _, _, _⟩) (v := ?_) rfl hHeld ?_ ?_; rotate_left; (focus (intro W hS; have c0_0 := (hS.1).at_ (j := 0) rfl; have c0_1 := (hS.1).at_ (j := 1) rfl; have c0_2 := (hS.1).at_ (j := 2) rfl; have c0_3 := (hS.1).at_ (j := 3) rfl; have c1_0 := (hS.2.1).at_ (j := 0) rfl; have c1_1 := (hS.2.1).at_ (j := 1) rfl; have c1_2 := (hS.2.1).at_ (j := 2) rfl; clear hS; go_simp; try with_reducible rfl)); try simp only [ptl]
  refine tk (i := 11) (oi := ⟨some 71, _, _, _, _, _⟩) (v := ?_) rfl hHeld ?_ ?_; rotate_left; (focus (intro _ _; go_simp; try with_reducible rfl)); try simp only [ptl]
  refine wpAnyH_ready (rs := [7, 12]) (by kernel_rfl) (by simp) ?_
  refine AllReadyH.cons (o := ⟨some 67, _, _, _, _, _⟩) rfl (fun K hK => ?_) ?_
  ·
   have hc0 := GB.cell hkb
   rw [elb.out] at hc0
   go_simp
   clear hc0
   refine hK.out _ _ hHeld (fun hHeld' => ?_)
   clear hK K hHeld; have hHeld := hHeld'; clear hHeld'
   try simp only [ptl]
   refine rd1 (i := 12) (o := ⟨some 72, _, _, _, _, _⟩) rfl (fun K hK => ?_)
   have hc0 := GB.cell hkc
   rw [elc.out] at hc0
   go_simp
   clear hc0
   refine hK.out _ _ hHeld (fun hHeld' => ?_)
   clear hK K hHeld; have hHeld := hHeld'; clear hHeld'
   try simp only [ptl]
   refine rd1 (i := 13) (o := ⟨some 73, _, _, _, _, _⟩) rfl (fun K hK => ?_)
   go_simp
   refine Calls.mono (CJ.out _) ?_
   rintro e x1 ⟨rfl, hb1⟩
   replace GV := GV.new hb1
   replace GB := GB.new hb1
   refine hK.out _ _ ⟨hHeld.1.new hb1, hHeld.2.1.new hb1, Chg.trans hHeld.2.2 (chg_of_new hb1)⟩ (fun hHeld' => ?_)
   clear hK K hHeld hb1; have hHeld := hHeld'; clear hHeld'
   try simp only [ptl]
   refine tk (i := 14) (oi := ⟨some 74, _, _, _, _, _⟩) (v := ?_) rfl hHeld ?_ ?_; rotate_left; (focus (intro _ _; go_simp; try with_reducible rfl)); try simp only [ptl]
   refine rd1 (i := 15) (o := ⟨none, _, _, _, _, _⟩) rfl (fun K hK => ?_)
   have hc0 := GB.cell hka
   have hf0 := GB.frozen ka
   go_simp
   clear hc0 hf0
   replace GV := GV.far (q := gb) (k := ka) (by omega) (.int .i64 (lz))
   replace GB := GB.put hka HLl.out (lz)
   refine hK.out _ _ ⟨hHeld.1.chg (chg_one (Chg.refl gv (gb + 1) _) (by omega) (by omega) _) (by omega), hHeld.2.1.chg (chg_one (Chg.refl gv (gb + 1) _) (by omega) (by omega) _) (by omega), chg_one hHeld.2.2 (by omega) (by omega) _⟩ (fun hHeld' => ?_)
   clear hK K hHeld; have hHeld := hHeld'; clear hHeld'
   try simp only [ptl]
   refine wpAnyH_done (by kernel_rfl) ?_ _
   replace KA := Lib.hid hHeld.1
   replace KC := Lib.hid hHeld.2.1
   replace HC := Lib.hid hHeld.2.2
   replace GVx := Lib.hid GV
   replace GBx := Lib.hid GB
   clear hHeld GV GB
   go_wp2_with (refine wpList_store_row rfl 47 _ _ rfl (w.heap.size + 1) #[.int .i64 0, .int .i64 0, .int .i64 0] rfl rfl 47 _ KC.out (by kernel_rfl) (by kernel_rfl) (by kernel_rfl) ?_)
   have e0 := (box_row (cs := #[.int .i64 0, .int .i64 0, .int .i64 0]) KC.out).at_ (j := 0) rfl
   have e1 := (box_row (cs := #[.int .i64 0, .int .i64 0, .int .i64 0]) KC.out).at_ (j := 1) rfl
   have e2 := (box_row (cs := #[.int .i64 0, .int .i64 0, .int .i64 0]) KC.out).at_ (j := 2) rfl
   exact bodyPost_ret (v := .tuple #[.agg #[.int .i64 0, .int .i64 0, .int .i64 0], .bool false]) (by simp [results, Try.results81, go_sem, e0, e1, e2]) rfl ⟨rfl, irow_row GVx.out _ (by omega), irow_row GBx.out _ (by omega), chg_row_new HC.out (by omega) _⟩
   
  refine AllReadyH.cons (o := ⟨some 72, _, _, _, _, _⟩) rfl (fun K hK => ?_) ?_
  ·
   have hc0 := GB.cell hkc
   rw [elc.out] at hc0
   go_simp
   clear hc0
   refine hK.out _ _ hHeld (fun hHeld' => ?_)
   clear hK K hHeld; have hHeld := hHeld'; clear hHeld'
   try simp only [ptl]
   refine rd1 (i := 7) (o := ⟨some 67, _, _, _, _, _⟩) rfl (fun K hK => ?_)
   have hc0 := GB.cell hkb
   rw [elb.out] at hc0
   go_simp
   clear hc0
   refine hK.out _ _ hHeld (fun hHeld' => ?_)
   clear hK K hHeld; have hHeld := hHeld'; clear hHeld'
   try simp only [ptl]
   refine rd1 (i := 13) (o := ⟨some 73, _, _, _, _, _⟩) rfl (fun K hK => ?_)
   go_simp
   refine Calls.mono (CJ.out _) ?_
   rintro e x1 ⟨rfl, hb1⟩
   replace GV := GV.new hb1
   replace GB := GB.new hb1
   refine hK.out _ _ ⟨hHeld.1.new hb1, hHeld.2.1.new hb1, Chg.trans hHeld.2.2 (chg_of_new hb1)⟩ (fun hHeld' => ?_)
   clear hK K hHeld hb1; have hHeld := hHeld'; clear hHeld'
   try simp only [ptl]
   refine tk (i := 14) (oi := ⟨some 74, _, _, _, _, _⟩) (v := ?_) rfl hHeld ?_ ?_; rotate_left; (focus (intro _ _; go_simp; try with_reducible rfl)); try simp only [ptl]
   refine rd1 (i := 15) (o := ⟨none, _, _, _, _, _⟩) rfl (fun K hK => ?_)
   have hc0 := GB.cell hka
   have hf0 := GB.frozen ka
   go_simp
   clear hc0 hf0
   replace GV := GV.far (q := gb) (k := ka) (by omega) (.int .i64 (lz))
   replace GB := GB.put hka HLl.out (lz)
   refine hK.out _ _ ⟨hHeld.1.chg (chg_one (Chg.refl gv (gb + 1) _) (by omega) (by omega) _) (by omega), hHeld.2.1.chg (chg_one (Chg.refl gv (gb + 1) _) (by omega) (by omega) _) (by omega), chg_one hHeld.2.2 (by omega) (by omega) _⟩ (fun hHeld' => ?_)
   clear hK K hHeld; have hHeld := hHeld'; clear hHeld'
   try simp only [ptl]
   refine wpAnyH_done (by kernel_rfl) ?_ _
   replace KA := Lib.hid hHeld.1
   replace KC := Lib.hid hHeld.2.1
   replace HC := Lib.hid hHeld.2.2
   replace GVx := Lib.hid GV
   replace GBx := Lib.hid GB
   clear hHeld GV GB
   go_wp2_with (refine wpList_store_row rfl 47 _ _ rfl (w.heap.size + 1) #[.int .i64 0, .int .i64 0, .int .i64 0] rfl rfl 47 _ KC.out (by kernel_rfl) (by kernel_rfl) (by kernel_rfl) ?_)
   have e0 := (box_row (cs := #[.int .i64 0, .int .i64 0, .int .i64 0]) KC.out).at_ (j := 0) rfl
   have e1 := (box_row (cs := #[.int .i64 0, .int .i64 0, .int .i64 0]) KC.out).at_ (j := 1) rfl
   have e2 := (box_row (cs := #[.int .i64 0, .int .i64 0, .int .i64 0]) KC.out).at_ (j := 2) rfl
   exact bodyPost_ret (v := .tuple #[.agg #[.int .i64 0, .int .i64 0, .int .i64 0], .bool false]) (by simp [results, Try.results81, go_sem, e0, e1, e2]) rfl ⟨rfl, irow_row GVx.out _ (by omega), irow_row GBx.out _ (by omega), chg_row_new HC.out (by omega) _⟩
   
  exact AllReadyH.nil
  
 exact AllReadyH.nil
end Go.Proofs.Ytcankpiidjhhpaa
