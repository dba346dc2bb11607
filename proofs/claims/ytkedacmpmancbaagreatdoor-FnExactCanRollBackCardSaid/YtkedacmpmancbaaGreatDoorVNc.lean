/- McS, McSd, McSe, NfS, Tight, what is needed of it. -/
import Derived.Test.YtkedacmpmancbaaGreatDoorVRgn
import Derived.Test.YtkedacmpmancbaaGreatDoorVNa
import Derived.Test.YtkedacmpmancbaaGreatDoorVReg
import Derived.StillTailTactics
import Derived.Deep.RegionHeld3
import Derived.Deep.LoopGhost
import Derived.Deep.DeepCutAuto
import Derived.Test.YtkedacmpmancbaaGreatDoorVNb
namespace Go.Proofs.YtkedacmpmancbaaGreatDoor
open Go Go.ChangeShapes Go.WideShapes Go.ChangeAt Go.RowKit Go.Lib
set_option linter.unusedVariables false
set_option linter.unusedSimpArgs false
set_option maxRecDepth 100000

/-- Block g is a row that may be written, and its first six cells are these numbers. -/
def IRow (w : World) (g c : Nat) (l : List Int) : Prop := 6 ≤ c ∧ c ≤ maxLen ∧ ∃ f, w.rowIs g 3 c f ∧ ∀ j, j < 6 → f j = .int .i64 (l.getD j 0)
section
variable {w w' : World} {g c : Nat} {l : List Int}
theorem IRow.lt (h : IRow w g c l) : g < w.heap.size := by obtain ⟨_, _, f, hr, _⟩ := h; exact hr.lt
theorem IRow.keep (h : IRow w g c l) (e : w'.heap[g]? = w.heap[g]?) : IRow w' g c l := by obtain ⟨h1, h2, f, hr, hf⟩ := h; exact ⟨h1, h2, f, hr.of_block e, hf⟩
theorem IRow.new (h : IRow w g c l) (hb : Below w.heap.size w w') : IRow w' g c l := h.keep (hb.block g h.lt)
theorem IRow.drw (h : IRow w g c l) : IRow w.drew g c l := h
theorem IRow.alloc (h : IRow w g c l) (o : Obj) : IRow (w.alloc o) g c l := h.keep (Below.heap_alloc w o g h.lt)
theorem IRow.chg {lo hi : Nat} (h : IRow w g c l) (hc : Chg lo hi w w') (hd : ¬ (lo ≤ g ∧ g < hi)) : IRow w' g c l := h.keep (hc.block g h.lt hd)
theorem IRow.cell (h : IRow w g c l) {k : Nat} (hk : k < 6) : w.cell? ⟨g, k, none⟩ = some (.int .i64 (l.getD k 0)) := by obtain ⟨h1, _, f, hr, hf⟩ := h; rw [hr.cell (by omega), hf k hk]
theorem IRow.frozen (h : IRow w g c l) (k : Nat) : w.frozen? ⟨g, k, none⟩ = false := by obtain ⟨_, _, f, hr, _⟩ := h; exact hr.frozen k
theorem getD_put {l : List Int} {k : Nat} {z : Int} (j : Nat) (hk : k < l.length) : (l.set k z).getD j 0 = if k = j then z else l.getD j 0 := by
 simp only [List.getD_eq_getElem?_getD, List.getElem?_set]
 by_cases e : k = j
 ·
  subst e; simp [hk]
 ·
  simp [e]
theorem IRow.put (h : IRow w g c l) {k : Nat} (hk : k < 6) (hl : l.length = 6) (z : Int) : IRow (w.setCell ⟨g, k, none⟩ (.int .i64 z)) g c (l.set k z) := by
 obtain ⟨h1, h2, f, hr, hf⟩ := h
 refine ⟨h1, h2, _, hr.set k (.int .i64 z), fun j hj => ?_⟩
 rw [getD_put j (by omega)]
 by_cases e : j = k
 ·
  subst e; rw [if_pos rfl, if_pos rfl]
 ·
  rw [if_neg e, if_neg (by omega), hf j hj]
theorem IRow.far (h : IRow w g c l) {q k : Nat} (hq : g ≠ q) (u : Value) : IRow (w.setCell ⟨q, k, none⟩ u) g c l := h.keep (Below.heap_setCell w _ u g (by exact hq))
theorem IRow.fr (h : IRow w g c l) (hl : l.length = 6) : Fr w g (g + 1) 3 1 (some ⟨g, 0, none⟩) 6 c (i64s l) := by
 obtain ⟨h1, h2, f, hr, hf⟩ := h
 refine fr_of_rowcap (by simpa using hr) (Nat.le_refl _) (Nat.lt_succ_self _) h1 h2 (by simp [i64s, hl]) fun j u hu => ?_
 have hj : j < 6 := by have := (List.getElem?_eq_some_iff.1 hu).1; simpa [i64s, hl] using this
 rw [hf j hj]
 simp only [i64s, List.getElem?_map] at hu
 obtain ⟨z, hz, rfl⟩ := Option.map_eq_some_iff.1 hu
 rw [List.getD_eq_getElem?_getD, hz]
 rfl
theorem irow_of_fr {lo hi : Nat} {A : Option Addr} (h : Fr w lo hi 3 1 A 6 c (i64s l)) : ∃ g, A = some ⟨g, 0, none⟩ ∧ lo ≤ g ∧ g < hi ∧ IRow w g c l := by
 obtain ⟨g, cap, hA, h1, h2, h3, rfl, h5, f, hr, hf⟩ := h.row (by decide)
 refine ⟨g, hA, h1, h2, h3, h5, f, by simpa using hr, fun j hj => ?_⟩
 have hl : l.length = 6 := by have := h.len; simpa [i64s] using this
 refine hf j _ ?_
 simp only [i64s, List.getElem?_map]
 rw [List.getElem?_eq_getElem (by omega), List.getD_eq_getElem?_getD, List.getElem?_eq_getElem (by omega)]
 rfl
theorem chg_one {lo hi q k : Nat} {w0 : World} (h : Chg lo hi w0 w) (h1 : lo ≤ q) (h2 : q < hi) (u : Value) : Chg lo hi w0 (w.setCell ⟨q, k, none⟩ u) := h.set_ (.inl ⟨h1, h2⟩) _
theorem set_same {k : Nat} (hk : k < l.length) : l.set k (l.getD k 0) = l := by
 apply List.ext_getElem?
 intro j
 rw [List.getElem?_set]
 by_cases e : k = j
 ·
  subst e
  rw [if_pos rfl, if_pos hk, List.getD_eq_getElem?_getD, List.getElem?_eq_getElem hk]
  rfl
 ·
  rw [if_neg e]
end
/-- What a step would send. -/
def mSs (o : TOp) (v b : List Int) : TSent := if o.f0 = 5 then ⟨o.f2, gI v o.f1, gI b o.f1⟩ else ⟨0, 0, 0⟩
set_option maxHeartbeats 8000000 in
theorem spec_zeros (w : World) : Calls Tryz.prog 173 #[] w (fun e w' => ∃ g c, e = .returned (.slice (some ⟨g, 0, none⟩) 6 c) ∧ w.heap.size ≤ g ∧ IRow w' g c (List.replicate 6 0) ∧ Below w.heap.size w w') := by
 go_enter Tryz.func173, Tryz.ntmps173
 go_wp2_with fail
 go_loopg [1, 2] 6 (fun gg v i wr => ∃ k : Nat, k ≤ 6 ∧ 6 - k ≤ gg ∧ i = .int .i64 k ∧ Hid (wr.ownsRow w.heap.size 3 1 v k (i64s (List.replicate k 0))) ∧ Hid (Below w.heap.size w wr))
 case atStart => exact ⟨0, Nat.zero_le _, by omega, rfl, Lib.hid (World.ownsRow_lit w #[] 0 (Nat.le_refl _) (by unfold maxLen; omega) rfl), Lib.hid ((Below.refl _ _).alloc (Nat.le_refl _) _)⟩
 case round =>
  obtain ⟨k, hk, hg, rfl, HO, HB⟩ := hrel
  by_cases hlt : k < 6
  ·
   have hki : decide ((k : Int) < 6) = true := by simp; omega
   have HN := Lib.hid hlt
   have HS := Lib.hid HB.out.size
   clear hlt
   go_wp2_with (at_builtin; refine wp_app_lit rfl _ _ _ rfl w.heap.size 3 (.int .i64 0) 1 8 Tryz.underlying116 info_intC rfl (by decide) _ _ _ rfl HO.out #[.int .i64 0] 1 1 _ rfl (by simp) rfl (one_intC _) (by have := HN.out; unfold maxLen; omega) (by have := HN.out; omega) (by have := HS.out; omega) ?_; intro v1 w2 ho1 hb1)
   have HO1 := Lib.hid (show w2.ownsRow w.heap.size 3 1 v1 (k + 1) (i64s (List.replicate (k + 1) 0)) by
    have e : i64s (List.replicate (k + 1) 0) = i64s (List.replicate k 0) ++ (#[Value.int .i64 0]).toList := by simp [i64s, List.replicate_succ']
    rw [e]; exact ho1)
   have HB1 := Lib.hid (HB.out.trans hb1)
   clear ho1 hb1 HO
   go_wp2_with fail
   go_roundg (6 - (k + 1))
   case measure => have := HN.out; omega
   case rel => exact ⟨k + 1, by have := HN.out; omega, by have := HN.out; omega, by go_num, HO1, HB1⟩
  ·
   obtain rfl : k = 6 := by omega
   obtain ⟨A, c, rfl, hF⟩ := fr_of_own HO.out
   obtain ⟨g, rfl, h1, h2, h3⟩ := irow_of_fr hF
   have H3 := Lib.hid h3
   clear HO hF h3
   go_wp2_with fail
   go_ret
   exact ⟨_, _, rfl, h1, H3.out, HB.out⟩
theorem irow_row {w : World} {g c q : Nat} {l : List Int} (h : IRow w g c l) (cs : Array Value) (hq : g ≠ q) : IRow (w.setRow q cs) g c l := h.keep (setRow_other w q g cs hq)
theorem chg_row_new {lo hi q : Nat} {w0 w : World} (h : Chg lo hi w0 w) (hq : w0.heap.size ≤ q) (cs : Array Value) : Chg lo hi w0 (w.setRow q cs) :=
 ⟨h.os, h.tape, h.output, by simpa using h.size, fun k h1 h2 => (setRow_other w q k cs (by omega)).trans (h.block k h1 h2)⟩
theorem rd_boxs {w : World} {g : Nat} {t : TypeId} {cs : Array Value} (h : BoxAt w g t cs) : Rd w g (g + 1) 1 (some ⟨g, 0, none⟩) cs.size cs.toList :=
 ⟨by simp, fun _ => ⟨g, 0, rfl, Nat.le_refl _, Nat.lt_succ_self _, fun j u hu => by rw [Nat.zero_add]; exact h.at_ (by simpa using hu)⟩⟩
set_option maxHeartbeats 16000000 in
theorem st_1 (o : TOp) (vals : List Int) (A : Option Addr) (n c lo hi gv cv gb cb : Nat) (v b : List Int) (w : World) (hn : n ≤ 1048576) (hr : Rd w lo hi 1 A n (i64s vals)) (hhi : hi ≤ gv) (ho : mOp o = true) (hk : o.f0 = 1) (hv : v.length = 6 ∧ ∀ z ∈ v, 0 ≤ z ∧ z ≤ 999) (hb : b.length = 6 ∧ ∀ z ∈ b, mIsLabel z = true) (hV : IRow w gv cv v) (hB : IRow w gb cb b) (hg : gv < gb) :
  Calls Tryz.prog 174 #[.agg #[.int .i64 o.f0, .int .i64 o.f1, .int .i64 o.f2, .int .i64 o.f3], .slice A n c, .slice (some ⟨gv, 0, none⟩) 6 cv, .slice (some ⟨gb, 0, none⟩) 6 cb] w (fun e w' => e = .returned (.tuple #[.agg #[.int .i64 (mSs o v b).f0, .int .i64 (mSs o v b).f1, .int .i64 (mSs o v b).f2], .bool (o.f0 == 5)]) ∧ IRow w' gv cv (mStV o vals v) ∧ IRow w' gb cb (mStB o b) ∧ Chg gv (gb + 1) w w') := by
 obtain ⟨h1, h2, h3⟩ := mOp_12 ho (.inl hk)
 obtain ⟨ka, e1, hka⟩ := mReg_n h1
 obtain ⟨kb, e2⟩ : ∃ kb : Nat, o.f2 = (kb : Int) + 1 := ⟨(o.f2 - 1).toNat, by omega⟩
 have hkb : kb < 9 := by omega
 have EV : mStV o vals v = v.set ka (mVal vals kb) := by unfold mStV; rw [if_pos hk, e1, e2, show ((kb : Int) + 1).toNat - 1 = kb by omega]; rfl
 have EB : mStB o b = b.set ka ((mLabS [(kb : Int) + 1] 9 : Nat) : Int) := by unfold mStB; rw [if_pos hk, e1, e2]; rfl
 have ES : mSs o v b = ⟨0, 0, 0⟩ := by unfold mSs; rw [if_neg (by omega)]
 have E5 : (o.f0 == 5) = false := by simp; omega
 rw [EV, EB, ES, E5, hk, e1, e2]
 have CV := Lib.hid (fun W (hW : Chg gv (gb + 1) w W) => spec_Val vals A n c lo hi kb W hn (by omega) (hr.chg hW (by omega)))
 have CL := Lib.hid (fun (W : World) (q : Nat) (hq : BoxAt W q 3 #[.int .i64 ((kb : Int) + 1)]) => spec_LabelOf [(kb : Int) + 1] (some ⟨q, 0, none⟩) 1 1 q (q + 1) W (by decide) (by simpa [i64s] using rd_boxs hq))
 generalize mVal vals kb = vz at CV ⊢
 generalize ((mLabS [(kb : Int) + 1] 9 : Nat) : Int) = lz at CL ⊢
 have hki : (ka : Int) < 6 := by omega
 clear EV EB ES E5 h1 h2 h3 e1 e2 hkb
 have HVl := Lib.hid hv.1
 have HLl := Lib.hid hb.1
 have hgs := hB.lt
 have hgw := hV.lt
 have KA := Lib.hid ((box_new w 130 #[.int .i64 1, .int .i64 (ka : Int), .int .i64 ((kb : Int) + 1), .int .i64 o.f3]).alloc_ (.cells #[.int .i64 0, .int .i64 0, .int .i64 0] 207))
 have KC := Lib.hid (show BoxAt ((w.alloc (.cells #[.int .i64 1, .int .i64 (ka : Int), .int .i64 ((kb : Int) + 1), .int .i64 o.f3] 130)).alloc (.cells #[.int .i64 0, .int .i64 0, .int .i64 0] 207)) (w.heap.size + 1) 207 #[.int .i64 0, .int .i64 0, .int .i64 0] by simpa using box_new (w.alloc (.cells #[.int .i64 1, .int .i64 (ka : Int), .int .i64 ((kb : Int) + 1), .int .i64 o.f3] 130)) 207 #[.int .i64 0, .int .i64 0, .int .i64 0])
 have HC := Lib.hid (((Chg.refl gv (gb + 1) w).alloc (.cells #[.int .i64 1, .int .i64 (ka : Int), .int .i64 ((kb : Int) + 1), .int .i64 o.f3] 130)).alloc (.cells #[.int .i64 0, .int .i64 0, .int .i64 0] 207))
 have GVx := Lib.hid (show IRow ((w.alloc (.cells #[.int .i64 1, .int .i64 (ka : Int), .int .i64 ((kb : Int) + 1), .int .i64 o.f3] 130)).alloc (.cells #[.int .i64 0, .int .i64 0, .int .i64 0] 207)) gv cv v from (hV.alloc _).alloc _)
 have GBx := Lib.hid (show IRow ((w.alloc (.cells #[.int .i64 1, .int .i64 (ka : Int), .int .i64 ((kb : Int) + 1), .int .i64 o.f3] 130)).alloc (.cells #[.int .i64 0, .int .i64 0, .int .i64 0] 207)) gb cb b from (hB.alloc _).alloc _)
 clear hr hv hb hV hB ho hk hn
 go_enter Tryz.func174, Tryz.ntmps174
 obtain ⟨ka0, ka1, ka2, ka3⟩ := KA.out.p4
 go_wp2_with fail
 clear ka0 ka1 ka2 ka3
 have GV : IRow (World.drew _) gv cv _ := GVx.out.drw
 have GB : IRow (World.drew _) gb cb _ := GBx.out.drw
 refine wp_region_held_drew (S := fun w' => BoxAt w' w.heap.size 130 #[.int .i64 1, .int .i64 (ka : Int), .int .i64 ((kb : Int) + 1), .int .i64 o.f3] ∧ BoxAt w' (w.heap.size + 1) 207 #[.int .i64 0, .int .i64 0, .int .i64 0] ∧ Chg gv (gb + 1) w w') (by kernel_rfl) ?_ (fun hHeld => ?_)
 ·
  exact ⟨KA.out.drw, KC.out.drw, HC.out.drewN 1⟩
 generalize (World.drew _) = x0 at hHeld GV GB ⊢
 refine tz 0 14 hHeld ?_; try simp only [ptl]
 refine tz 1 15 hHeld ?_; try simp only [ptl]
 refine tl 2 16 hHeld rfl ?_ (by intro W hS; obtain ⟨c0_0, c0_1, c0_2, c0_3⟩ := (hS.1).p4; obtain ⟨c1_0, c1_1, c1_2⟩ := (hS.2.1).p3; clear hS; go_simp; try with_reducible rfl); try simp only [ptl]
 refine tz 3 17 hHeld ?_; try simp only [ptl]
 refine tz 4 18 hHeld ?_; try simp only [ptl]
 refine tl 5 19 hHeld rfl ?_ (by intro W hS; obtain ⟨c0_0, c0_1, c0_2, c0_3⟩ := (hS.1).p4; obtain ⟨c1_0, c1_1, c1_2⟩ := (hS.2.1).p3; clear hS; go_simp; try with_reducible rfl); try simp only [ptl]
 refine rd1 (i := 6) (o := ⟨some 20, _, _, _, _, _⟩) rfl (fun K hK => ?_)
 go_simp
 refine Calls.mono (says_of_same (CV.out _ hHeld.2.2)) ?_
 rintro e x1 ⟨rfl, hb1⟩
 replace GV := GV.new hb1
 replace GB := GB.new hb1
 refine hK.out _ _ ⟨hHeld.1.new hb1, hHeld.2.1.new hb1, Chg.trans hHeld.2.2 (chg_of_new hb1)⟩ (fun hHeld' => ?_)
 clear hK K hHeld hb1; have hHeld := hHeld'; clear hHeld'
 try simp only [ptl]
 refine tz 7 21 hHeld ?_; try simp only [ptl]
 refine rd1 (i := 8) (o := ⟨none, _, _, _, _, _⟩) rfl (fun K hK => ?_)
 have hc0 := GV.cell hka
 have hf0 := GV.frozen ka
 go_simp
 clear hc0 hf0
 replace GB := GB.far (q := gv) (k := ka) (by omega) (.int .i64 (vz))
 replace GV := GV.put hka HVl.out (vz)
 refine hK.out _ _ ⟨hHeld.1.chg (chg_one (Chg.refl gv (gb + 1) _) (by omega) (by omega) _) (by omega), hHeld.2.1.chg (chg_one (Chg.refl gv (gb + 1) _) (by omega) (by omega) _) (by omega), chg_one hHeld.2.2 (by omega) (by omega) _⟩ (fun hHeld' => ?_)
 clear hK K hHeld; have hHeld := hHeld'; clear hHeld'
 try simp only [ptl]
 refine wpAnyH_done (by kernel_rfl) ?_ _
 replace KA := Lib.hid hHeld.1
 replace KC := Lib.hid hHeld.2.1
 replace HC := Lib.hid hHeld.2.2
 replace GVx := Lib.hid GV
 replace GBx := Lib.hid GB
 clear hHeld GV GB
 obtain ⟨ka0, ka1, ka2, ka3⟩ := KA.out.p4
 go_wp2_with fail
 clear ka0 ka1 ka2 ka3
 have GV : IRow (World.drew _) gv cv _ := GVx.out.drw
 have GB : IRow (World.drew _) gb cb _ := GBx.out.drw
 refine wp_region_held_drew (S := fun w' => BoxAt w' w.heap.size 130 #[.int .i64 1, .int .i64 (ka : Int), .int .i64 ((kb : Int) + 1), .int .i64 o.f3] ∧ BoxAt w' (w.heap.size + 1) 207 #[.int .i64 0, .int .i64 0, .int .i64 0] ∧ Chg gv (gb + 1) w w') (by kernel_rfl) ?_ (fun hHeld => ?_)
 ·
  exact ⟨KA.out.drw, KC.out.drw, HC.out.drewN 1⟩
 generalize (World.drew _) = x0 at hHeld GV GB ⊢
 refine tz 0 22 hHeld ?_; try simp only [ptl]
 refine tz 1 23 hHeld ?_; try simp only [ptl]
 refine tl 2 24 hHeld rfl ?_ (by intro W hS; obtain ⟨c0_0, c0_1, c0_2, c0_3⟩ := (hS.1).p4; obtain ⟨c1_0, c1_1, c1_2⟩ := (hS.2.1).p3; clear hS; go_simp; try with_reducible rfl); try simp only [ptl]
 refine tz 3 25 hHeld ?_; try simp only [ptl]
 refine tl 4 26 hHeld rfl ?_ (by intro W hS; obtain ⟨c0_0, c0_1, c0_2, c0_3⟩ := (hS.1).p4; obtain ⟨c1_0, c1_1, c1_2⟩ := (hS.2.1).p3; clear hS; go_simp; try with_reducible rfl); try simp only [ptl]
 refine rd1 (i := 5) (o := ⟨some 27, _, _, _, _, _⟩) rfl (fun K hK => ?_)
 go_simp
 have GL := box_new (x0) 3 #[.int .i64 ((kb : Int) + 1)]
 have hb1 := (Below.refl (x0).heap.size (x0)).alloc (Nat.le_refl _) (.cells #[.int .i64 ((kb : Int) + 1)] 3)
 have LL : w.heap.size ≤ (x0).heap.size := by have := (hHeld.1).lt; have := (hHeld.2.1).lt; have := (hHeld.2.2).size; omega
 have M0L : w.heap.size < (x0).heap.size := (hHeld.1).lt
 have M1L : (w.heap.size + 1) < (x0).heap.size := (hHeld.2.1).lt
 replace GV := GV.new hb1
 replace GB := GB.new hb1
 generalize (x0).alloc (.cells #[.int .i64 ((kb : Int) + 1)] 3) = x1 at hb1 GL GV GB ⊢
 generalize hg : (x0).heap.size = gL at GL LL M0L M1L ⊢
 clear hg
 refine hK.out _ _ ⟨hHeld.1.new hb1, hHeld.2.1.new hb1, Chg.trans hHeld.2.2 (chg_of_new hb1)⟩ (fun hHeld' => ?_)
 clear hK K hHeld hb1; have hHeld := hHeld'; clear hHeld'
 try simp only [ptl]
 refine rd1 (i := 6) (o := ⟨some 28, _, _, _, _, _⟩) rfl (fun K hK => ?_)
 go_simp
 refine Calls.mono (says_of_same (CL.out _ _ GL)) ?_
 rintro e x2 ⟨rfl, hb1⟩
 replace GV := GV.new hb1
 replace GB := GB.new hb1
 replace GL := GL.new hb1
 refine hK.out _ _ ⟨hHeld.1.new hb1, hHeld.2.1.new hb1, Chg.trans hHeld.2.2 (chg_of_new hb1)⟩ (fun hHeld' => ?_)
 clear hK K hHeld hb1; have hHeld := hHeld'; clear hHeld'
 try simp only [ptl]
 refine tz 7 29 hHeld ?_; try simp only [ptl]
 refine rd1 (i := 8) (o := ⟨none, _, _, _, _, _⟩) rfl (fun K hK => ?_)
 have hc0 := GB.cell hka
 have hf0 := GB.frozen ka
 go_simp
 clear hc0 hf0
 replace GV := GV.far (q := gb) (k := ka) (by omega) (.int .i64 (lz))
 replace GB := GB.put hka HLl.out (lz)
 refine hK.out _ _ ⟨hHeld.1.chg (chg_one (Chg.refl gv (gb + 1) _) (by omega) (by omega) _) (by omega), hHeld.2.1.chg (chg_one (Chg.refl gv (gb + 1) _) (by omega) (by omega) _) (by omega), chg_one hHeld.2.2 (by omega) (by omega) _⟩ (fun hHeld' => ?_)
 clear hK K hHeld; have hHeld := hHeld'; clear hHeld'
 try simp only [ptl]
 refine wpAnyH_done (by kernel_rfl) ?_ _
 replace KA := Lib.hid hHeld.1
 replace KC := Lib.hid hHeld.2.1
 replace HC := Lib.hid hHeld.2.2
 replace GVx := Lib.hid GV
 replace GBx := Lib.hid GB
 clear hHeld GV GB
 go_wp2_with (refine wpList_store_row rfl 207 _ _ rfl (w.heap.size + 1) #[.int .i64 0, .int .i64 0, .int .i64 0] rfl rfl 207 _ KC.out (by kernel_rfl) (by kernel_rfl) (by kernel_rfl) ?_)
 have e0 := (box_row (cs := #[.int .i64 0, .int .i64 0, .int .i64 0]) KC.out).at_ (j := 0) rfl
 have e1 := (box_row (cs := #[.int .i64 0, .int .i64 0, .int .i64 0]) KC.out).at_ (j := 1) rfl
 have e2 := (box_row (cs := #[.int .i64 0, .int .i64 0, .int .i64 0]) KC.out).at_ (j := 2) rfl
 exact bodyPost_ret (v := .tuple #[.agg #[.int .i64 0, .int .i64 0, .int .i64 0], .bool false]) (by simp [results, Tryz.results174, go_sem, e0, e1, e2]) rfl ⟨rfl, irow_row GVx.out _ (by omega), irow_row GBx.out _ (by omega), chg_row_new HC.out (by omega) _⟩
set_option maxHeartbeats 16000000 in
theorem st_2 (o : TOp) (vals : List Int) (A : Option Addr) (n c lo hi gv cv gb cb : Nat) (v b : List Int) (w : World) (hn : n ≤ 1048576) (hr : Rd w lo hi 1 A n (i64s vals)) (hhi : hi ≤ gv) (ho : mOp o = true) (hk : o.f0 = 2) (hv : v.length = 6 ∧ ∀ z ∈ v, 0 ≤ z ∧ z ≤ 999) (hb : b.length = 6 ∧ ∀ z ∈ b, mIsLabel z = true) (hV : IRow w gv cv v) (hB : IRow w gb cb b) (hg : gv < gb) :
  Calls Tryz.prog 174 #[.agg #[.int .i64 o.f0, .int .i64 o.f1, .int .i64 o.f2, .int .i64 o.f3], .slice A n c, .slice (some ⟨gv, 0, none⟩) 6 cv, .slice (some ⟨gb, 0, none⟩) 6 cb] w (fun e w' => e = .returned (.tuple #[.agg #[.int .i64 (mSs o v b).f0, .int .i64 (mSs o v b).f1, .int .i64 (mSs o v b).f2], .bool (o.f0 == 5)]) ∧ IRow w' gv cv (mStV o vals v) ∧ IRow w' gb cb (mStB o b) ∧ Chg gv (gb + 1) w w') := by
 obtain ⟨h1, h2, h3⟩ := mOp_2 ho hk
 obtain ⟨ka, e1, hka⟩ := mReg_n h1
 have EV : mStV o vals v = v.set ka o.f2 := by unfold mStV; rw [if_neg (by omega), if_pos hk, e1]; rfl
 have EB : mStB o b = b.set ka 0 := by unfold mStB; rw [if_neg (by omega), if_pos hk, e1]; rfl
 have ES : mSs o v b = ⟨0, 0, 0⟩ := by unfold mSs; rw [if_neg (by omega)]
 have E5 : (o.f0 == 5) = false := by simp; omega
 rw [EV, EB, ES, E5, hk, e1]
 have hki : (ka : Int) < 6 := by omega
 clear EV EB ES E5 h1 h2 h3 e1
 have HVl := Lib.hid hv.1
 have HLl := Lib.hid hb.1
 have hgs := hB.lt
 have hgw := hV.lt
 have KA := Lib.hid ((box_new w 130 #[.int .i64 2, .int .i64 (ka : Int), .int .i64 o.f2, .int .i64 o.f3]).alloc_ (.cells #[.int .i64 0, .int .i64 0, .int .i64 0] 207))
 have KC := Lib.hid (show BoxAt ((w.alloc (.cells #[.int .i64 2, .int .i64 (ka : Int), .int .i64 o.f2, .int .i64 o.f3] 130)).alloc (.cells #[.int .i64 0, .int .i64 0, .int .i64 0] 207)) (w.heap.size + 1) 207 #[.int .i64 0, .int .i64 0, .int .i64 0] by simpa using box_new (w.alloc (.cells #[.int .i64 2, .int .i64 (ka : Int), .int .i64 o.f2, .int .i64 o.f3] 130)) 207 #[.int .i64 0, .int .i64 0, .int .i64 0])
 have HC := Lib.hid (((Chg.refl gv (gb + 1) w).alloc (.cells #[.int .i64 2, .int .i64 (ka : Int), .int .i64 o.f2, .int .i64 o.f3] 130)).alloc (.cells #[.int .i64 0, .int .i64 0, .int .i64 0] 207))
 have GVx := Lib.hid (show IRow ((w.alloc (.cells #[.int .i64 2, .int .i64 (ka : Int), .int .i64 o.f2, .int .i64 o.f3] 130)).alloc (.cells #[.int .i64 0, .int .i64 0, .int .i64 0] 207)) gv cv v from (hV.alloc _).alloc _)
 have GBx := Lib.hid (show IRow ((w.alloc (.cells #[.int .i64 2, .int .i64 (ka : Int), .int .i64 o.f2, .int .i64 o.f3] 130)).alloc (.cells #[.int .i64 0, .int .i64 0, .int .i64 0] 207)) gb cb b from (hB.alloc _).alloc _)
 clear hr hv hb hV hB ho hk hn
 go_enter Tryz.func174, Tryz.ntmps174
 go_upto_region 6 with fail
 generalize ((w.alloc (.cells #[.int .i64 2, .int .i64 (ka : Int), .int .i64 o.f2, .int .i64 o.f3] 130)).alloc (.cells #[.int .i64 0, .int .i64 0, .int .i64 0] 207)) = wx at KA KC HC GVx GBx ⊢
 obtain ⟨ka0, ka1, ka2, ka3⟩ := KA.out.p4
 have v0 := GVx.out.cell hka
 have v1 := GVx.out.frozen ka
 go_upto_region 7 with fail
 clear v0 v1
 clear ka0 ka1 ka2 ka3
 replace KA := Lib.hid (KA.out.chg (chg_one (k := ka) (Chg.refl gv (gb + 1) _) (q := gv) (by omega) (by omega) (.int .i64 (o.f2))) (by omega))
 replace KC := Lib.hid (KC.out.chg (chg_one (k := ka) (Chg.refl gv (gb + 1) _) (q := gv) (by omega) (by omega) (.int .i64 (o.f2))) (by omega))
 replace HC := Lib.hid (chg_one (k := ka) HC.out (q := gv) (by omega) (by omega) (.int .i64 (o.f2)))
 replace GBx := Lib.hid (GBx.out.far (q := gv) (k := ka) (by omega) (.int .i64 (o.f2)))
 replace GVx := Lib.hid (GVx.out.put hka HVl.out (o.f2))
 generalize World.setCell wx ⟨gv, ka, none⟩ (.int .i64 o.f2) = wy at KA KC HC GVx GBx ⊢
 obtain ⟨ka0, ka1, ka2, ka3⟩ := KA.out.p4
 have v0 := GBx.out.cell hka
 have v1 := GBx.out.frozen ka
 go_upto_region 17 with fail
 clear v0 v1
 clear ka0 ka1 ka2 ka3
 replace KA := Lib.hid (KA.out.chg (chg_one (k := ka) (Chg.refl gv (gb + 1) _) (q := gb) (by omega) (by omega) (.int .i64 (0))) (by omega))
 replace KC := Lib.hid (KC.out.chg (chg_one (k := ka) (Chg.refl gv (gb + 1) _) (q := gb) (by omega) (by omega) (.int .i64 (0))) (by omega))
 replace HC := Lib.hid (chg_one (k := ka) HC.out (q := gb) (by omega) (by omega) (.int .i64 (0)))
 replace GVx := Lib.hid (GVx.out.far (q := gb) (k := ka) (by omega) (.int .i64 (0)))
 replace GBx := Lib.hid (GBx.out.put hka HLl.out (0))
 generalize World.setCell wy ⟨gb, ka, none⟩ (.int .i64 0) = wz at KA KC HC GVx GBx ⊢
 go_wp2_with (refine wpList_store_row rfl 207 _ _ rfl (w.heap.size + 1) #[.int .i64 0, .int .i64 0, .int .i64 0] rfl rfl 207 _ KC.out (by kernel_rfl) (by kernel_rfl) (by kernel_rfl) ?_)
 have e0 := (box_row (cs := #[.int .i64 0, .int .i64 0, .int .i64 0]) KC.out).at_ (j := 0) rfl
 have e1 := (box_row (cs := #[.int .i64 0, .int .i64 0, .int .i64 0]) KC.out).at_ (j := 1) rfl
 have e2 := (box_row (cs := #[.int .i64 0, .int .i64 0, .int .i64 0]) KC.out).at_ (j := 2) rfl
 exact bodyPost_ret (v := .tuple #[.agg #[.int .i64 0, .int .i64 0, .int .i64 0], .bool false]) (by simp [results, Tryz.results174, go_sem, e0, e1, e2]) rfl ⟨rfl, irow_row GVx.out _ (by omega), irow_row GBx.out _ (by omega), chg_row_new HC.out (by omega) _⟩
set_option maxHeartbeats 16000000 in
theorem st_3 (o : TOp) (vals : List Int) (A : Option Addr) (n c lo hi gv cv gb cb : Nat) (v b : List Int) (w : World) (hn : n ≤ 1048576) (hr : Rd w lo hi 1 A n (i64s vals)) (hhi : hi ≤ gv) (ho : mOp o = true) (hk : o.f0 = 3) (hv : v.length = 6 ∧ ∀ z ∈ v, 0 ≤ z ∧ z ≤ 999) (hb : b.length = 6 ∧ ∀ z ∈ b, mIsLabel z = true) (hV : IRow w gv cv v) (hB : IRow w gb cb b) (hg : gv < gb) :
  Calls Tryz.prog 174 #[.agg #[.int .i64 o.f0, .int .i64 o.f1, .int .i64 o.f2, .int .i64 o.f3], .slice A n c, .slice (some ⟨gv, 0, none⟩) 6 cv, .slice (some ⟨gb, 0, none⟩) 6 cb] w (fun e w' => e = .returned (.tuple #[.agg #[.int .i64 (mSs o v b).f0, .int .i64 (mSs o v b).f1, .int .i64 (mSs o v b).f2], .bool (o.f0 == 5)]) ∧ IRow w' gv cv (mStV o vals v) ∧ IRow w' gb cb (mStB o b) ∧ Chg gv (gb + 1) w w') := by
 obtain ⟨qa, qb, qc⟩ := mOp_34 ho (.inl hk)
 obtain ⟨ka, e1, hka⟩ := mReg_n qa
 obtain ⟨kb, e2, hkb⟩ := mReg_n qb
 obtain ⟨kc, e3, hkc⟩ := mReg_n qc
 rw [e1] at qa
 rw [e2] at qb
 rw [e3] at qc
 obtain ⟨va, eva⟩ : ∃ z, Hid (v.getD ka 0 = z) := ⟨_, Lib.hid rfl⟩
 obtain ⟨ba, ela⟩ : ∃ z, Hid (b.getD ka 0 = z) := ⟨_, Lib.hid rfl⟩
 have hva : 0 ≤ va ∧ va ≤ 999 := by have h0 := gI_in (P := fun z => 0 ≤ z ∧ z ≤ 999) hv (k := (ka : Int)) qa; rw [← eva.out]; simpa [gI] using h0
 have hba : mIsLabel ba = true := by have h0 := gI_in (P := fun z => mIsLabel z = true) hb (k := (ka : Int)) qa; rw [← ela.out]; simpa [gI] using h0
 have hkia : (ka : Int) < 6 := by omega
 obtain ⟨vb, evb⟩ : ∃ z, Hid (v.getD kb 0 = z) := ⟨_, Lib.hid rfl⟩
 obtain ⟨bb, elb⟩ : ∃ z, Hid (b.getD kb 0 = z) := ⟨_, Lib.hid rfl⟩
 have hvb : 0 ≤ vb ∧ vb ≤ 999 := by have h0 := gI_in (P := fun z => 0 ≤ z ∧ z ≤ 999) hv (k := (kb : Int)) qb; rw [← evb.out]; simpa [gI] using h0
 have hbb : mIsLabel bb = true := by have h0 := gI_in (P := fun z => mIsLabel z = true) hb (k := (kb : Int)) qb; rw [← elb.out]; simpa [gI] using h0
 have hkib : (kb : Int) < 6 := by omega
 obtain ⟨vc, evc⟩ : ∃ z, Hid (v.getD kc 0 = z) := ⟨_, Lib.hid rfl⟩
 obtain ⟨bc, elc⟩ : ∃ z, Hid (b.getD kc 0 = z) := ⟨_, Lib.hid rfl⟩
 have hvc : 0 ≤ vc ∧ vc ≤ 999 := by have h0 := gI_in (P := fun z => 0 ≤ z ∧ z ≤ 999) hv (k := (kc : Int)) qc; rw [← evc.out]; simpa [gI] using h0
 have hbc : mIsLabel bc = true := by have h0 := gI_in (P := fun z => mIsLabel z = true) hb (k := (kc : Int)) qc; rw [← elc.out]; simpa [gI] using h0
 have hkic : (kc : Int) < 6 := by omega
 have EV : mStV o vals v = v.set ka ((vb + vc) % 1000) := by unfold mStV; rw [if_neg (by omega), if_neg (by omega), if_pos hk, e1, e2, e3, ← evb.out, ← evc.out]; rfl
 have EB : mStB o b = b.set ka (mJoin bb bc) := by unfold mStB; rw [if_neg (by omega), if_neg (by omega), if_pos hk, e1, e2, e3, ← elb.out, ← elc.out]; rfl
 have ES : mSs o v b = ⟨0, 0, 0⟩ := by unfold mSs; rw [if_neg (by omega)]
 have E5 : (o.f0 == 5) = false := by simp; omega
 rw [EV, EB, ES, E5, hk, e1, e2, e3]
 have hw : IntKind.i64.wrap (vb + vc) = vb + vc := IntWalk.i64_in _ (by omega)
 have htm : Int.tmod (vb + vc) 1000 = (vb + vc) % 1000 := Int.tmod_eq_emod_of_nonneg (by omega)
 have CJ := Lib.hid (fun W => spec_JoinLabels bb bc W (lab_wf hbb) (lab_wf hbc))
 generalize mJoin bb bc = lz at CJ ⊢
 generalize (vb + vc) % 1000 = vz at htm ⊢
 clear EV EB ES E5 e1 e2 e3 hva hvb hvc hba hbb hbc qa qb qc eva ela
 have HVl := Lib.hid hv.1
 have HLl := Lib.hid hb.1
 have hgs := hB.lt
 have hgw := hV.lt
 have KA := Lib.hid ((box_new w 130 #[.int .i64 3, .int .i64 (ka : Int), .int .i64 (kb : Int), .int .i64 (kc : Int)]).alloc_ (.cells #[.int .i64 0, .int .i64 0, .int .i64 0] 207))
 have KC := Lib.hid (show BoxAt ((w.alloc (.cells #[.int .i64 3, .int .i64 (ka : Int), .int .i64 (kb : Int), .int .i64 (kc : Int)] 130)).alloc (.cells #[.int .i64 0, .int .i64 0, .int .i64 0] 207)) (w.heap.size + 1) 207 #[.int .i64 0, .int .i64 0, .int .i64 0] by simpa using box_new (w.alloc (.cells #[.int .i64 3, .int .i64 (ka : Int), .int .i64 (kb : Int), .int .i64 (kc : Int)] 130)) 207 #[.int .i64 0, .int .i64 0, .int .i64 0])
 have HC := Lib.hid (((Chg.refl gv (gb + 1) w).alloc (.cells #[.int .i64 3, .int .i64 (ka : Int), .int .i64 (kb : Int), .int .i64 (kc : Int)] 130)).alloc (.cells #[.int .i64 0, .int .i64 0, .int .i64 0] 207))
 have GVx := Lib.hid (show IRow ((w.alloc (.cells #[.int .i64 3, .int .i64 (ka : Int), .int .i64 (kb : Int), .int .i64 (kc : Int)] 130)).alloc (.cells #[.int .i64 0, .int .i64 0, .int .i64 0] 207)) gv cv v from (hV.alloc _).alloc _)
 have GBx := Lib.hid (show IRow ((w.alloc (.cells #[.int .i64 3, .int .i64 (ka : Int), .int .i64 (kb : Int), .int .i64 (kc : Int)] 130)).alloc (.cells #[.int .i64 0, .int .i64 0, .int .i64 0] 207)) gb cb b from (hB.alloc _).alloc _)
 clear hr hv hb hV hB ho hk hn
 go_enter Tryz.func174, Tryz.ntmps174
 go_upto_region 9 with fail
 have GV : IRow (World.drew _) gv cv _ := GVx.out.drw
 have GB : IRow (World.drew _) gb cb _ := GBx.out.drw
 refine wp_region_held_drew (S := fun w' => BoxAt w' w.heap.size 130 #[.int .i64 3, .int .i64 (ka : Int), .int .i64 (kb : Int), .int .i64 (kc : Int)] ∧ BoxAt w' (w.heap.size + 1) 207 #[.int .i64 0, .int .i64 0, .int .i64 0] ∧ Chg gv (gb + 1) w w') (by kernel_rfl) ?_ (fun hHeld => ?_)
 ·
  exact ⟨KA.out.drw, KC.out.drw, HC.out.drewN 1⟩
 generalize (World.drew _) = x0 at hHeld GV GB ⊢
 refine tz 0 44 hHeld ?_; try simp only [ptl]
 refine tz 1 45 hHeld ?_; try simp only [ptl]
 refine tl 2 46 hHeld rfl ?_ (by intro W hS; obtain ⟨c0_0, c0_1, c0_2, c0_3⟩ := (hS.1).p4; obtain ⟨c1_0, c1_1, c1_2⟩ := (hS.2.1).p3; clear hS; go_simp; try with_reducible rfl); try simp only [ptl]
 refine tz 3 47 hHeld ?_; try simp only [ptl]
 refine tz 4 48 hHeld ?_; try simp only [ptl]
 refine tl 5 49 hHeld rfl ?_ (by intro W hS; obtain ⟨c0_0, c0_1, c0_2, c0_3⟩ := (hS.1).p4; obtain ⟨c1_0, c1_1, c1_2⟩ := (hS.2.1).p3; clear hS; go_simp; try with_reducible rfl); try simp only [ptl]
 refine tz 6 50 hHeld ?_; try simp only [ptl]
 refine tz 8 52 hHeld ?_; try simp only [ptl]
 refine tz 9 53 hHeld ?_; try simp only [ptl]
 refine tl 10 54 hHeld rfl ?_ (by intro W hS; obtain ⟨c0_0, c0_1, c0_2, c0_3⟩ := (hS.1).p4; obtain ⟨c1_0, c1_1, c1_2⟩ := (hS.2.1).p3; clear hS; go_simp; try with_reducible rfl); try simp only [ptl]
 refine tz 11 55 hHeld ?_; try simp only [ptl]
 refine wpAnyH_ready (rs := [7, 12]) (by kernel_rfl) (by simp) ?_
 refine AllReadyH.cons (o := ⟨some 51, _, _, _, _, _⟩) rfl (fun K hK => ?_) ?_
 ·
  have hc0 := GV.cell hkb
  rw [evb.out] at hc0
  go_simp
  clear hc0
  refine hK.out _ _ hHeld (fun hHeld' => ?_)
  clear hK K hHeld; have hHeld := hHeld'; clear hHeld'
  try simp only [ptl]
  refine rd1 (i := 12) (o := ⟨some 56, _, _, _, _, _⟩) rfl (fun K hK => ?_)
  have hc0 := GV.cell hkc
  rw [evc.out] at hc0
  go_simp
  clear hc0
  refine hK.out _ _ hHeld (fun hHeld' => ?_)
  clear hK K hHeld; have hHeld := hHeld'; clear hHeld'
  try simp only [ptl]
  refine tz 13 57 hHeld ?_; try simp only [ptl]
  refine tz 14 58 hHeld ?_; try simp only [ptl]
  refine tz 15 59 hHeld ?_; try simp only [ptl]
  refine rd1 (i := 16) (o := ⟨none, _, _, _, _, _⟩) rfl (fun K hK => ?_)
  have hc0 := GV.cell hka
  have hf0 := GV.frozen ka
  go_simp
  clear hc0 hf0
  replace GB := GB.far (q := gv) (k := ka) (by omega) (.int .i64 (vz))
  replace GV := GV.put hka HVl.out (vz)
  refine hK.out _ _ ⟨hHeld.1.chg (chg_one (Chg.refl gv (gb + 1) _) (by omega) (by omega) _) (by omega), hHeld.2.1.chg (chg_one (Chg.refl gv (gb + 1) _) (by omega) (by omega) _) (by omega), chg_one hHeld.2.2 (by omega) (by omega) _⟩ (fun hHeld' => ?_)
  clear hK K hHeld; have hHeld := hHeld'; clear hHeld'
  try simp only [ptl]
  refine wpAnyH_done (by kernel_rfl) ?_ _
  replace KA := Lib.hid hHeld.1
  replace KC := Lib.hid hHeld.2.1
  replace HC := Lib.hid hHeld.2.2
  replace GVx := Lib.hid GV
  replace GBx := Lib.hid GB
  clear hHeld GV GB
  go_upto_region 10 with fail
  have GV : IRow (World.drew _) gv cv _ := GVx.out.drw
  have GB : IRow (World.drew _) gb cb _ := GBx.out.drw
  refine wp_region_held_drew (S := fun w' => BoxAt w' w.heap.size 130 #[.int .i64 3, .int .i64 (ka : Int), .int .i64 (kb : Int), .int .i64 (kc : Int)] ∧ BoxAt w' (w.heap.size + 1) 207 #[.int .i64 0, .int .i64 0, .int .i64 0] ∧ Chg gv (gb + 1) w w') (by kernel_rfl) ?_ (fun hHeld => ?_)
  ·
   exact ⟨KA.out.drw, KC.out.drw, HC.out.drewN 1⟩
  generalize (World.drew _) = x0 at hHeld GV GB ⊢
  refine tz 0 60 hHeld ?_; try simp only [ptl]
  refine tz 1 61 hHeld ?_; try simp only [ptl]
  refine tl 2 62 hHeld rfl ?_ (by intro W hS; obtain ⟨c0_0, c0_1, c0_2, c0_3⟩ := (hS.1).p4; obtain ⟨c1_0, c1_1, c1_2⟩ := (hS.2.1).p3; clear hS; go_simp; try with_reducible rfl); try simp only [ptl]
  refine tz 3 63 hHeld ?_; try simp only [ptl]
  refine tz 4 64 hHeld ?_; try simp only [ptl]
  refine tl 5 65 hHeld rfl ?_ (by intro W hS; obtain ⟨c0_0, c0_1, c0_2, c0_3⟩ := (hS.1).p4; obtain ⟨c1_0, c1_1, c1_2⟩ := (hS.2.1).p3; clear hS; go_simp; try with_reducible rfl); try simp only [ptl]
  refine tz 6 66 hHeld ?_; try simp only [ptl]
  refine tz 8 68 hHeld ?_; try simp only [ptl]
  refine tz 9 69 hHeld ?_; try simp only [ptl]
  refine tl 10 70 hHeld rfl ?_ (by intro W hS; obtain ⟨c0_0, c0_1, c0_2, c0_3⟩ := (hS.1).p4; obtain ⟨c1_0, c1_1, c1_2⟩ := (hS.2.1).p3; clear hS; go_simp; try with_reducible rfl); try simp only [ptl]
  refine tz 11 71 hHeld ?_; try simp only [ptl]
  refine wpAnyH_ready (rs := [7, 12]) (by kernel_rfl) (by simp) ?_
  refine AllReadyH.cons (o := ⟨some 67, _, _, _, _, _⟩) rfl (fun K hK => ?_) ?_
  ·
   have hc0 := GB.cell hkb
   rw [elb.out] at hc0
   go_simp
   clear hc0
   refine hK.out _ _ hHeld (fun hHeld' => ?_)
   clear hK K hHeld; have hHeld := hHeld'; clear hHeld'
   try simp only [ptl]
   refine rd1 (i := 12) (o := ⟨some 72, _, _, _, _, _⟩) rfl (fun K hK => ?_)
   have hc0 := GB.cell hkc
   rw [elc.out] at hc0
   go_simp
   clear hc0
   refine hK.out _ _ hHeld (fun hHeld' => ?_)
   clear hK K hHeld; have hHeld := hHeld'; clear hHeld'
   try simp only [ptl]
   refine rd1 (i := 13) (o := ⟨some 73, _, _, _, _, _⟩) rfl (fun K hK => ?_)
   go_simp
   refine Calls.mono (CJ.out _) ?_
   rintro e x1 ⟨rfl, hb1⟩
   replace GV := GV.new hb1
   replace GB := GB.new hb1
   refine hK.out _ _ ⟨hHeld.1.new hb1, hHeld.2.1.new hb1, Chg.trans hHeld.2.2 (chg_of_new hb1)⟩ (fun hHeld' => ?_)
   clear hK K hHeld hb1; have hHeld := hHeld'; clear hHeld'
   try simp only [ptl]
   refine tz 14 74 hHeld ?_; try simp only [ptl]
   refine rd1 (i := 15) (o := ⟨none, _, _, _, _, _⟩) rfl (fun K hK => ?_)
   have hc0 := GB.cell hka
   have hf0 := GB.frozen ka
   go_simp
   clear hc0 hf0
   replace GV := GV.far (q := gb) (k := ka) (by omega) (.int .i64 (lz))
   replace GB := GB.put hka HLl.out (lz)
   refine hK.out _ _ ⟨hHeld.1.chg (chg_one (Chg.refl gv (gb + 1) _) (by omega) (by omega) _) (by omega), hHeld.2.1.chg (chg_one (Chg.refl gv (gb + 1) _) (by omega) (by omega) _) (by omega), chg_one hHeld.2.2 (by omega) (by omega) _⟩ (fun hHeld' => ?_)
   clear hK K hHeld; have hHeld := hHeld'; clear hHeld'
   try simp only [ptl]
   refine wpAnyH_done (by kernel_rfl) ?_ _
   replace KA := Lib.hid hHeld.1
   replace KC := Lib.hid hHeld.2.1
   replace HC := Lib.hid hHeld.2.2
   replace GVx := Lib.hid GV
   replace GBx := Lib.hid GB
   clear hHeld GV GB
   go_wp2_with (refine wpList_store_row rfl 207 _ _ rfl (w.heap.size + 1) #[.int .i64 0, .int .i64 0, .int .i64 0] rfl rfl 207 _ KC.out (by kernel_rfl) (by kernel_rfl) (by kernel_rfl) ?_)
   have e0 := (box_row (cs := #[.int .i64 0, .int .i64 0, .int .i64 0]) KC.out).at_ (j := 0) rfl
   have e1 := (box_row (cs := #[.int .i64 0, .int .i64 0, .int .i64 0]) KC.out).at_ (j := 1) rfl
   have e2 := (box_row (cs := #[.int .i64 0, .int .i64 0, .int .i64 0]) KC.out).at_ (j := 2) rfl
   exact bodyPost_ret (v := .tuple #[.agg #[.int .i64 0, .int .i64 0, .int .i64 0], .bool false]) (by simp [results, Tryz.results174, go_sem, e0, e1, e2]) rfl ⟨rfl, irow_row GVx.out _ (by omega), irow_row GBx.out _ (by omega), chg_row_new HC.out (by omega) _⟩
   
  refine AllReadyH.cons (o := ⟨some 72, _, _, _, _, _⟩) rfl (fun K hK => ?_) ?_
  ·
   have hc0 := GB.cell hkc
   rw [elc.out] at hc0
   go_simp
   clear hc0
   refine hK.out _ _ hHeld (fun hHeld' => ?_)
   clear hK K hHeld; have hHeld := hHeld'; clear hHeld'
   try simp only [ptl]
   refine rd1 (i := 7) (o := ⟨some 67, _, _, _, _, _⟩) rfl (fun K hK => ?_)
   have hc0 := GB.cell hkb
   rw [elb.out] at hc0
   go_simp
   clear hc0
   refine hK.out _ _ hHeld (fun hHeld' => ?_)
   clear hK K hHeld; have hHeld := hHeld'; clear hHeld'
   try simp only [ptl]
   refine rd1 (i := 13) (o := ⟨some 73, _, _, _, _, _⟩) rfl (fun K hK => ?_)
   go_simp
   refine Calls.mono (CJ.out _) ?_
   rintro e x1 ⟨rfl, hb1⟩
   replace GV := GV.new hb1
   replace GB := GB.new hb1
   refine hK.out _ _ ⟨hHeld.1.new hb1, hHeld.2.1.new hb1, Chg.trans hHeld.2.2 (chg_of_new hb1)⟩ (fun hHeld' => ?_)
   clear hK K hHeld hb1; have hHeld := hHeld'; clear hHeld'
   try simp only [ptl]
   refine tz 14 74 hHeld ?_; try simp only [ptl]
   refine rd1 (i := 15) (o := ⟨none, _, _, _, _, _⟩) rfl (fun K hK => ?_)
   have hc0 := GB.cell hka
   have hf0 := GB.frozen ka
   go_simp
   clear hc0 hf0
   replace GV := GV.far (q := gb) (k := ka) (by omega) (.int .i64 (lz))
   replace GB := GB.put hka HLl.out (lz)
   refine hK.out _ _ ⟨hHeld.1.chg (chg_one (Chg.refl gv (gb + 1) _) (by omega) (by omega) _) (by omega), hHeld.2.1.chg (chg_one (Chg.refl gv (gb + 1) _) (by omega) (by omega) _) (by omega), chg_one hHeld.2.2 (by omega) (by omega) _⟩ (fun hHeld' => ?_)
   clear hK K hHeld; have hHeld := hHeld'; clear hHeld'
   try simp only [ptl]
   refine wpAnyH_done (by kernel_rfl) ?_ _
   replace KA := Lib.hid hHeld.1
   replace KC := Lib.hid hHeld.2.1
   replace HC := Lib.hid hHeld.2.2
   replace GVx := Lib.hid GV
   replace GBx := Lib.hid GB
   clear hHeld GV GB
   go_wp2_with (refine wpList_store_row rfl 207 _ _ rfl (w.heap.size + 1) #[.int .i64 0, .int .i64 0, .int .i64 0] rfl rfl 207 _ KC.out (by kernel_rfl) (by kernel_rfl) (by kernel_rfl) ?_)
   have e0 := (box_row (cs := #[.int .i64 0, .int .i64 0, .int .i64 0]) KC.out).at_ (j := 0) rfl
   have e1 := (box_row (cs := #[.int .i64 0, .int .i64 0, .int .i64 0]) KC.out).at_ (j := 1) rfl
   have e2 := (box_row (cs := #[.int .i64 0, .int .i64 0, .int .i64 0]) KC.out).at_ (j := 2) rfl
   exact bodyPost_ret (v := .tuple #[.agg #[.int .i64 0, .int .i64 0, .int .i64 0], .bool false]) (by simp [results, Tryz.results174, go_sem, e0, e1, e2]) rfl ⟨rfl, irow_row GVx.out _ (by omega), irow_row GBx.out _ (by omega), chg_row_new HC.out (by omega) _⟩
   
  exact AllReadyH.nil
  
 refine AllReadyH.cons (o := ⟨some 56, _, _, _, _, _⟩) rfl (fun K hK => ?_) ?_
 ·
  have hc0 := GV.cell hkc
  rw [evc.out] at hc0
  go_simp
  clear hc0
  refine hK.out _ _ hHeld (fun hHeld' => ?_)
  clear hK K hHeld; have hHeld := hHeld'; clear hHeld'
  try simp only [ptl]
  refine rd1 (i := 7) (o := ⟨some 51, _, _, _, _, _⟩) rfl (fun K hK => ?_)
  have hc0 := GV.cell hkb
  rw [evb.out] at hc0
  go_simp
  clear hc0
  refine hK.out _ _ hHeld (fun hHeld' => ?_)
  clear hK K hHeld; have hHeld := hHeld'; clear hHeld'
  try simp only [ptl]
  refine tz 13 57 hHeld ?_; try simp only [ptl]
  refine tz 14 58 hHeld ?_; try simp only [ptl]
  refine tz 15 59 hHeld ?_; try simp only [ptl]
  refine rd1 (i := 16) (o := ⟨none, _, _, _, _, _⟩) rfl (fun K hK => ?_)
  have hc0 := GV.cell hka
  have hf0 := GV.frozen ka
  go_simp
  clear hc0 hf0
  replace GB := GB.far (q := gv) (k := ka) (by omega) (.int .i64 (vz))
  replace GV := GV.put hka HVl.out (vz)
  refine hK.out _ _ ⟨hHeld.1.chg (chg_one (Chg.refl gv (gb + 1) _) (by omega) (by omega) _) (by omega), hHeld.2.1.chg (chg_one (Chg.refl gv (gb + 1) _) (by omega) (by omega) _) (by omega), chg_one hHeld.2.2 (by omega) (by omega) _⟩ (fun hHeld' => ?_)
  clear hK K hHeld; have hHeld := hHeld'; clear hHeld'
  try simp only [ptl]
  refine wpAnyH_done (by kernel_rfl) ?_ _
  replace KA := Lib.hid hHeld.1
  replace KC := Lib.hid hHeld.2.1
  replace HC := Lib.hid hHeld.2.2
  replace GVx := Lib.hid GV
  replace GBx := Lib.hid GB
  clear hHeld GV GB
  go_upto_region 10 with fail
  have GV : IRow (World.drew _) gv cv _ := GVx.out.drw
  have GB : IRow (World.drew _) gb cb _ := GBx.out.drw
  refine wp_region_held_drew (S := fun w' => BoxAt w' w.heap.size 130 #[.int .i64 3, .int .i64 (ka : Int), .int .i64 (kb : Int), .int .i64 (kc : Int)] ∧ BoxAt w' (w.heap.size + 1) 207 #[.int .i64 0, .int .i64 0, .int .i64 0] ∧ Chg gv (gb + 1) w w') (by kernel_rfl) ?_ (fun hHeld => ?_)
  ·
   exact ⟨KA.out.drw, KC.out.drw, HC.out.drewN 1⟩
  generalize (World.drew _) = x0 at hHeld GV GB ⊢
  refine tz 0 60 hHeld ?_; try simp only [ptl]
  refine tz 1 61 hHeld ?_; try simp only [ptl]
  refine tl 2 62 hHeld rfl ?_ (by intro W hS; obtain ⟨c0_0, c0_1, c0_2, c0_3⟩ := (hS.1).p4; obtain ⟨c1_0, c1_1, c1_2⟩ := (hS.2.1).p3; clear hS; go_simp; try with_reducible rfl); try simp only [ptl]
  refine tz 3 63 hHeld ?_; try simp only [ptl]
  refine tz 4 64 hHeld ?_; try simp only [ptl]
  refine tl 5 65 hHeld rfl ?_ (by intro W hS; obtain ⟨c0_0, c0_1, c0_2, c0_3⟩ := (hS.1).p4; obtain ⟨c1_0, c1_1, c1_2⟩ := (hS.2.1).p3; clear hS; go_simp; try with_reducible rfl); try simp only [ptl]
  refine tz 6 66 hHeld ?_; try simp only [ptl]
  refine tz 8 68 hHeld ?_; try simp only [ptl]
  refine tz 9 69 hHeld ?_; try simp only [ptl]
  refine tl 10 70 hHeld rfl ?_ (by intro W hS; obtain ⟨c0_0, c0_1, c0_2, c0_3⟩ := (hS.1).p4; obtain ⟨c1_0, c1_1, c1_2⟩ := (hS.2.1).p3; clear hS; go_simp; try with_reducible rfl); try simp only [ptl]
  refine tz 11 71 hHeld ?_; try simp only [ptl]
  refine wpAnyH_ready (rs := [7, 12]) (by kernel_rfl) (by simp) ?_
  refine AllReadyH.cons (o := ⟨some 67, _, _, _, _, _⟩) rfl (fun K hK => ?_) ?_
  ·
   have hc0 := GB.cell hkb
   rw [elb.out] at hc0
   go_simp
   clear hc0
   refine hK.out _ _ hHeld (fun hHeld' => ?_)
   clear hK K hHeld; have hHeld := hHeld'; clear hHeld'
   try simp only [ptl]
   refine rd1 (i := 12) (o := ⟨some 72, _, _, _, _, _⟩) rfl (fun K hK => ?_)
   have hc0 := GB.cell hkc
   rw [elc.out] at hc0
   go_simp
   clear hc0
   refine hK.out _ _ hHeld (fun hHeld' => ?_)
   clear hK K hHeld; have hHeld := hHeld'; clear hHeld'
   try simp only [ptl]
   refine rd1 (i := 13) (o := ⟨some 73, _, _, _, _, _⟩) rfl (fun K hK => ?_)
   go_simp
   refine Calls.mono (CJ.out _) ?_
   rintro e x1 ⟨rfl, hb1⟩
   replace GV := GV.new hb1
   replace GB := GB.new hb1
   refine hK.out _ _ ⟨hHeld.1.new hb1, hHeld.2.1.new hb1, Chg.trans hHeld.2.2 (chg_of_new hb1)⟩ (fun hHeld' => ?_)
   clear hK K hHeld hb1; have hHeld := hHeld'; clear hHeld'
   try simp only [ptl]
   refine tz 14 74 hHeld ?_; try simp only [ptl]
   refine rd1 (i := 15) (o := ⟨none, _, _, _, _, _⟩) rfl (fun K hK => ?_)
   have hc0 := GB.cell hka
   have hf0 := GB.frozen ka
   go_simp
   clear hc0 hf0
   replace GV := GV.far (q := gb) (k := ka) (by omega) (.int .i64 (lz))
   replace GB := GB.put hka HLl.out (lz)
   refine hK.out _ _ ⟨hHeld.1.chg (chg_one (Chg.refl gv (gb + 1) _) (by omega) (by omega) _) (by omega), hHeld.2.1.chg (chg_one (Chg.refl gv (gb + 1) _) (by omega) (by omega) _) (by omega), chg_one hHeld.2.2 (by omega) (by omega) _⟩ (fun hHeld' => ?_)
   clear hK K hHeld; have hHeld := hHeld'; clear hHeld'
   try simp only [ptl]
   refine wpAnyH_done (by kernel_rfl) ?_ _
   replace KA := Lib.hid hHeld.1
   replace KC := Lib.hid hHeld.2.1
   replace HC := Lib.hid hHeld.2.2
   replace GVx := Lib.hid GV
   replace GBx := Lib.hid GB
   clear hHeld GV GB
   go_wp2_with (refine wpList_store_row rfl 207 _ _ rfl (w.heap.size + 1) #[.int .i64 0, .int .i64 0, .int .i64 0] rfl rfl 207 _ KC.out (by kernel_rfl) (by kernel_rfl) (by kernel_rfl) ?_)
   have e0 := (box_row (cs := #[.int .i64 0, .int .i64 0, .int .i64 0]) KC.out).at_ (j := 0) rfl
   have e1 := (box_row (cs := #[.int .i64 0, .int .i64 0, .int .i64 0]) KC.out).at_ (j := 1) rfl
   have e2 := (box_row (cs := #[.int .i64 0, .int .i64 0, .int .i64 0]) KC.out).at_ (j := 2) rfl
   exact bodyPost_ret (v := .tuple #[.agg #[.int .i64 0, .int .i64 0, .int .i64 0], .bool false]) (by simp [results, Tryz.results174, go_sem, e0, e1, e2]) rfl ⟨rfl, irow_row GVx.out _ (by omega), irow_row GBx.out _ (by omega), chg_row_new HC.out (by omega) _⟩
   
  refine AllReadyH.cons (o := ⟨some 72, _, _, _, _, _⟩) rfl (fun K hK => ?_) ?_
  ·
   have hc0 := GB.cell hkc
   rw [elc.out] at hc0
   go_simp
   clear hc0
   refine hK.out _ _ hHeld (fun hHeld' => ?_)
   clear hK K hHeld; have hHeld := hHeld'; clear hHeld'
   try simp only [ptl]
   refine rd1 (i := 7) (o := ⟨some 67, _, _, _, _, _⟩) rfl (fun K hK => ?_)
   have hc0 := GB.cell hkb
   rw [elb.out] at hc0
   go_simp
   clear hc0
   refine hK.out _ _ hHeld (fun hHeld' => ?_)
   clear hK K hHeld; have hHeld := hHeld'; clear hHeld'
   try simp only [ptl]
   refine rd1 (i := 13) (o := ⟨some 73, _, _, _, _, _⟩) rfl (fun K hK => ?_)
   go_simp
   refine Calls.mono (CJ.out _) ?_
   rintro e x1 ⟨rfl, hb1⟩
   replace GV := GV.new hb1
   replace GB := GB.new hb1
   refine hK.out _ _ ⟨hHeld.1.new hb1, hHeld.2.1.new hb1, Chg.trans hHeld.2.2 (chg_of_new hb1)⟩ (fun hHeld' => ?_)
   clear hK K hHeld hb1; have hHeld := hHeld'; clear hHeld'
   try simp only [ptl]
   refine tz 14 74 hHeld ?_; try simp only [ptl]
   refine rd1 (i := 15) (o := ⟨none, _, _, _, _, _⟩) rfl (fun K hK => ?_)
   have hc0 := GB.cell hka
   have hf0 := GB.frozen ka
   go_simp
   clear hc0 hf0
   replace GV := GV.far (q := gb) (k := ka) (by omega) (.int .i64 (lz))
   replace GB := GB.put hka HLl.out (lz)
   refine hK.out _ _ ⟨hHeld.1.chg (chg_one (Chg.refl gv (gb + 1) _) (by omega) (by omega) _) (by omega), hHeld.2.1.chg (chg_one (Chg.refl gv (gb + 1) _) (by omega) (by omega) _) (by omega), chg_one hHeld.2.2 (by omega) (by omega) _⟩ (fun hHeld' => ?_)
   clear hK K hHeld; have hHeld := hHeld'; clear hHeld'
   try simp only [ptl]
   refine wpAnyH_done (by kernel_rfl) ?_ _
   replace KA := Lib.hid hHeld.1
   replace KC := Lib.hid hHeld.2.1
   replace HC := Lib.hid hHeld.2.2
   replace GVx := Lib.hid GV
   replace GBx := Lib.hid GB
   clear hHeld GV GB
   go_wp2_with (refine wpList_store_row rfl 207 _ _ rfl (w.heap.size + 1) #[.int .i64 0, .int .i64 0, .int .i64 0] rfl rfl 207 _ KC.out (by kernel_rfl) (by kernel_rfl) (by kernel_rfl) ?_)
   have e0 := (box_row (cs := #[.int .i64 0, .int .i64 0, .int .i64 0]) KC.out).at_ (j := 0) rfl
   have e1 := (box_row (cs := #[.int .i64 0, .int .i64 0, .int .i64 0]) KC.out).at_ (j := 1) rfl
   have e2 := (box_row (cs := #[.int .i64 0, .int .i64 0, .int .i64 0]) KC.out).at_ (j := 2) rfl
   exact bodyPost_ret (v := .tuple #[.agg #[.int .i64 0, .int .i64 0, .int .i64 0], .bool false]) (by simp [results, Tryz.results174, go_sem, e0, e1, e2]) rfl ⟨rfl, irow_row GVx.out _ (by omega), irow_row GBx.out _ (by omega), chg_row_new HC.out (by omega) _⟩
   
  exact AllReadyH.nil
  
 exact AllReadyH.nil
end Go.Proofs.YtkedacmpmancbaaGreatDoor
namespace Go.Proofs.YtkedacmpmancbaaGreatDoor
open Go Go.ChangeShapes Go.WideShapes Go.ChangeAt Go.RowKit Go.Lib
set_option linter.unusedVariables false
set_option linter.unusedSimpArgs false
set_option maxRecDepth 100000
set_option maxHeartbeats 16000000 in
theorem st_4 (o : TOp) (vals : List Int) (A : Option Addr) (n c lo hi gv cv gb cb : Nat) (v b : List Int) (w : World) (hn : n ≤ 1048576) (hr : Rd w lo hi 1 A n (i64s vals)) (hhi : hi ≤ gv) (ho : mOp o = true) (hk : o.f0 = 4) (hv : v.length = 6 ∧ ∀ z ∈ v, 0 ≤ z ∧ z ≤ 999) (hb : b.length = 6 ∧ ∀ z ∈ b, mIsLabel z = true) (hV : IRow w gv cv v) (hB : IRow w gb cb b) (hg : gv < gb) :
  Calls Tryz.prog 174 #[.agg #[.int .i64 o.f0, .int .i64 o.f1, .int .i64 o.f2, .int .i64 o.f3], .slice A n c, .slice (some ⟨gv, 0, none⟩) 6 cv, .slice (some ⟨gb, 0, none⟩) 6 cb] w (fun e w' => e = .returned (.tuple #[.agg #[.int .i64 (mSs o v b).f0, .int .i64 (mSs o v b).f1, .int .i64 (mSs o v b).f2], .bool (o.f0 == 5)]) ∧ IRow w' gv cv (mStV o vals v) ∧ IRow w' gb cb (mStB o b) ∧ Chg gv (gb + 1) w w') := by
 obtain ⟨qa, qb, qc⟩ := mOp_34 ho (.inr hk)
 obtain ⟨ka, e1, hka⟩ := mReg_n qa
 obtain ⟨kb, e2, hkb⟩ := mReg_n qb
 obtain ⟨kc, e3, hkc⟩ := mReg_n qc
 rw [e1] at qa
 rw [e2] at qb
 rw [e3] at qc
 obtain ⟨va, eva⟩ : ∃ z, Hid (v.getD ka 0 = z) := ⟨_, Lib.hid rfl⟩
 obtain ⟨ba, ela⟩ : ∃ z, Hid (b.getD ka 0 = z) := ⟨_, Lib.hid rfl⟩
 have hva : 0 ≤ va ∧ va ≤ 999 := by have h0 := gI_in (P := fun z => 0 ≤ z ∧ z ≤ 999) hv (k := (ka : Int)) qa; rw [← eva.out]; simpa [gI] using h0
 have hba : mIsLabel ba = true := by have h0 := gI_in (P := fun z => mIsLabel z = true) hb (k := (ka : Int)) qa; rw [← ela.out]; simpa [gI] using h0
 have hkia : (ka : Int) < 6 := by omega
 obtain ⟨vb, evb⟩ : ∃ z, Hid (v.getD kb 0 = z) := ⟨_, Lib.hid rfl⟩
 obtain ⟨bb, elb⟩ : ∃ z, Hid (b.getD kb 0 = z) := ⟨_, Lib.hid rfl⟩
 have hvb : 0 ≤ vb ∧ vb ≤ 999 := by have h0 := gI_in (P := fun z => 0 ≤ z ∧ z ≤ 999) hv (k := (kb : Int)) qb; rw [← evb.out]; simpa [gI] using h0
 have hbb : mIsLabel bb = true := by have h0 := gI_in (P := fun z => mIsLabel z = true) hb (k := (kb : Int)) qb; rw [← elb.out]; simpa [gI] using h0
 have hkib : (kb : Int) < 6 := by omega
 obtain ⟨vc, evc⟩ : ∃ z, Hid (v.getD kc 0 = z) := ⟨_, Lib.hid rfl⟩
 obtain ⟨bc, elc⟩ : ∃ z, Hid (b.getD kc 0 = z) := ⟨_, Lib.hid rfl⟩
 have hvc : 0 ≤ vc ∧ vc ≤ 999 := by have h0 := gI_in (P := fun z => 0 ≤ z ∧ z ≤ 999) hv (k := (kc : Int)) qc; rw [← evc.out]; simpa [gI] using h0
 have hbc : mIsLabel bc = true := by have h0 := gI_in (P := fun z => mIsLabel z = true) hb (k := (kc : Int)) qc; rw [← elc.out]; simpa [gI] using h0
 have hkic : (kc : Int) < 6 := by omega
 have EV : mStV o vals v = v.set ka (if vb % 2 = 0 then vc else va) := by unfold mStV; rw [if_neg (by omega), if_neg (by omega), if_neg (by omega), if_pos hk, e1, e2, e3, ← eva.out, ← evb.out, ← evc.out]; rfl
 have EB : mStB o b = b.set ka (mJoin ba (mJoin bb bc)) := by unfold mStB; rw [if_neg (by omega), if_neg (by omega), if_neg (by omega), if_pos hk, e1, e2, e3, ← join_assoc hba hbb hbc, ← ela.out, ← elb.out, ← elc.out]; rfl
 have ES : mSs o v b = ⟨0, 0, 0⟩ := by unfold mSs; rw [if_neg (by omega)]
 have E5 : (o.f0 == 5) = false := by simp; omega
 rw [EV, EB, ES, E5, hk, e1, e2, e3]
 have htm : Int.tmod vb 2 = vb % 2 := Int.tmod_eq_emod_of_nonneg hvb.1
 have CJ := Lib.hid (fun W => spec_JoinLabels bb bc W (lab_wf hbb) (lab_wf hbc))
 have CK := Lib.hid (fun W => spec_JoinLabels ba (mJoin bb bc) W (lab_wf hba) (lab_wf (join_lab hbb hbc)))
 generalize mJoin ba (mJoin bb bc) = lz at CK ⊢
 generalize mJoin bb bc = ly at CJ CK
 have SV := Lib.hid (show v.set ka va = v by rw [← eva.out]; exact set_same (by rw [hv.1]; omega))
 obtain ⟨ev, hev⟩ : ∃ e : Bool, Hid ((vb % 2 == 0) = e) := ⟨_, Lib.hid rfl⟩
 have HZ := Lib.hid (show (if vb % 2 = 0 then vc else va) = if ev = true then vc else va by rw [← hev.out]; simp)
 rw [HZ.out]
 clear EV EB ES E5 e1 e2 e3 hva hvb hvc hba hbb hbc qa qb qc HZ
 have HVl := Lib.hid hv.1
 have HLl := Lib.hid hb.1
 have hgs := hB.lt
 have hgw := hV.lt
 have KA := Lib.hid ((box_new w 130 #[.int .i64 4, .int .i64 (ka : Int), .int .i64 (kb : Int), .int .i64 (kc : Int)]).alloc_ (.cells #[.int .i64 0, .int .i64 0, .int .i64 0] 207))
 have KC := Lib.hid (show BoxAt ((w.alloc (.cells #[.int .i64 4, .int .i64 (ka : Int), .int .i64 (kb : Int), .int .i64 (kc : Int)] 130)).alloc (.cells #[.int .i64 0, .int .i64 0, .int .i64 0] 207)) (w.heap.size + 1) 207 #[.int .i64 0, .int .i64 0, .int .i64 0] by simpa using box_new (w.alloc (.cells #[.int .i64 4, .int .i64 (ka : Int), .int .i64 (kb : Int), .int .i64 (kc : Int)] 130)) 207 #[.int .i64 0, .int .i64 0, .int .i64 0])
 have HC := Lib.hid (((Chg.refl gv (gb + 1) w).alloc (.cells #[.int .i64 4, .int .i64 (ka : Int), .int .i64 (kb : Int), .int .i64 (kc : Int)] 130)).alloc (.cells #[.int .i64 0, .int .i64 0, .int .i64 0] 207))
 have GVx := Lib.hid (show IRow ((w.alloc (.cells #[.int .i64 4, .int .i64 (ka : Int), .int .i64 (kb : Int), .int .i64 (kc : Int)] 130)).alloc (.cells #[.int .i64 0, .int .i64 0, .int .i64 0] 207)) gv cv v from (hV.alloc _).alloc _)
 have GBx := Lib.hid (show IRow ((w.alloc (.cells #[.int .i64 4, .int .i64 (ka : Int), .int .i64 (kb : Int), .int .i64 (kc : Int)] 130)).alloc (.cells #[.int .i64 0, .int .i64 0, .int .i64 0] 207)) gb cb b from (hB.alloc _).alloc _)
 clear hr hv hb hV hB ho hk hn
 go_enter Tryz.func174, Tryz.ntmps174
 go_upto_region 12 with fail
 go_cut [77] (fun s77 wx => Hid (BoxAt wx w.heap.size 130 #[.int .i64 4, .int .i64 (ka : Int), .int .i64 (kb : Int), .int .i64 (kc : Int)]) ∧ Hid (BoxAt wx (w.heap.size + 1) 207 #[.int .i64 0, .int .i64 0, .int .i64 0]) ∧ Hid (Chg gv (gb + 1) w wx) ∧ Hid (IRow wx gv cv v) ∧ Hid (IRow wx gb cb (b.set ka lz)))
 case first =>
  go_wp2_with fail
  have GV : IRow (World.drew _) gv cv _ := GVx.out.drw
  have GB : IRow (World.drew _) gb cb _ := GBx.out.drw
  refine wp_region_held_drew (S := fun w' => BoxAt w' w.heap.size 130 #[.int .i64 4, .int .i64 (ka : Int), .int .i64 (kb : Int), .int .i64 (kc : Int)] ∧ BoxAt w' (w.heap.size + 1) 207 #[.int .i64 0, .int .i64 0, .int .i64 0] ∧ Chg gv (gb + 1) w w') (by kernel_rfl) ?_ (fun hHeld => ?_)
  ·
   exact ⟨KA.out.drw, KC.out.drw, HC.out.drewN 1⟩
  generalize (World.drew _) = x0 at hHeld GV GB ⊢
  refine tz 0 77 hHeld ?_; try simp only [ptl]
  refine tz 1 78 hHeld ?_; try simp only [ptl]
  refine tl 2 79 hHeld rfl ?_ (by intro W hS; obtain ⟨c0_0, c0_1, c0_2, c0_3⟩ := (hS.1).p4; obtain ⟨c1_0, c1_1, c1_2⟩ := (hS.2.1).p3; clear hS; go_simp; try with_reducible rfl); try simp only [ptl]
  refine tz 3 80 hHeld ?_; try simp only [ptl]
  refine tz 4 81 hHeld ?_; try simp only [ptl]
  refine tl 5 82 hHeld rfl ?_ (by intro W hS; obtain ⟨c0_0, c0_1, c0_2, c0_3⟩ := (hS.1).p4; obtain ⟨c1_0, c1_1, c1_2⟩ := (hS.2.1).p3; clear hS; go_simp; try with_reducible rfl); try simp only [ptl]
  refine tz 6 83 hHeld ?_; try simp only [ptl]
  refine tz 8 85 hHeld ?_; try simp only [ptl]
  refine tz 9 86 hHeld ?_; try simp only [ptl]
  refine tl 10 87 hHeld rfl ?_ (by intro W hS; obtain ⟨c0_0, c0_1, c0_2, c0_3⟩ := (hS.1).p4; obtain ⟨c1_0, c1_1, c1_2⟩ := (hS.2.1).p3; clear hS; go_simp; try with_reducible rfl); try simp only [ptl]
  refine tz 11 88 hHeld ?_; try simp only [ptl]
  refine tz 13 90 hHeld ?_; try simp only [ptl]
  refine tz 14 91 hHeld ?_; try simp only [ptl]
  refine tl 15 92 hHeld rfl ?_ (by intro W hS; obtain ⟨c0_0, c0_1, c0_2, c0_3⟩ := (hS.1).p4; obtain ⟨c1_0, c1_1, c1_2⟩ := (hS.2.1).p3; clear hS; go_simp; try with_reducible rfl); try simp only [ptl]
  refine tz 16 93 hHeld ?_; try simp only [ptl]
  refine wpAnyH_ready (rs := [7, 12, 17]) (by kernel_rfl) (by simp) ?_
  refine AllReadyH.cons (o := ⟨some 84, _, _, _, _, _⟩) rfl (fun K hK => ?_) ?_
  ·
   have hc0 := GB.cell hka
   rw [ela.out] at hc0
   go_simp
   clear hc0
   refine hK.out _ _ hHeld (fun hHeld' => ?_)
   clear hK K hHeld; have hHeld := hHeld'; clear hHeld'
   try simp only [ptl]
   refine wpAnyH_ready (rs := [12, 17]) (by kernel_rfl) (by simp) ?_
   refine AllReadyH.cons (o := ⟨some 89, _, _, _, _, _⟩) rfl (fun K hK => ?_) ?_
   ·
    have hc0 := GB.cell hkb
    rw [elb.out] at hc0
    go_simp
    clear hc0
    refine hK.out _ _ hHeld (fun hHeld' => ?_)
    clear hK K hHeld; have hHeld := hHeld'; clear hHeld'
    try simp only [ptl]
    refine rd1 (i := 17) (o := ⟨some 94, _, _, _, _, _⟩) rfl (fun K hK => ?_)
    have hc0 := GB.cell hkc
    rw [elc.out] at hc0
    go_simp
    clear hc0
    refine hK.out _ _ hHeld (fun hHeld' => ?_)
    clear hK K hHeld; have hHeld := hHeld'; clear hHeld'
    try simp only [ptl]
    refine rd1 (i := 18) (o := ⟨some 95, _, _, _, _, _⟩) rfl (fun K hK => ?_)
    go_simp
    refine Calls.mono (CJ.out _) ?_
    rintro e x1 ⟨rfl, hb1⟩
    replace GV := GV.new hb1
    replace GB := GB.new hb1
    refine hK.out _ _ ⟨hHeld.1.new hb1, hHeld.2.1.new hb1, Chg.trans hHeld.2.2 (chg_of_new hb1)⟩ (fun hHeld' => ?_)
    clear hK K hHeld hb1; have hHeld := hHeld'; clear hHeld'
    try simp only [ptl]
    refine rd1 (i := 19) (o := ⟨some 96, _, _, _, _, _⟩) rfl (fun K hK => ?_)
    go_simp
    refine Calls.mono (CK.out _) ?_
    rintro e x2 ⟨rfl, hb1⟩
    replace GV := GV.new hb1
    replace GB := GB.new hb1
    refine hK.out _ _ ⟨hHeld.1.new hb1, hHeld.2.1.new hb1, Chg.trans hHeld.2.2 (chg_of_new hb1)⟩ (fun hHeld' => ?_)
    clear hK K hHeld hb1; have hHeld := hHeld'; clear hHeld'
    try simp only [ptl]
    refine tz 20 97 hHeld ?_; try simp only [ptl]
    refine rd1 (i := 21) (o := ⟨none, _, _, _, _, _⟩) rfl (fun K hK => ?_)
    have hc0 := GB.cell hka
    have hf0 := GB.frozen ka
    go_simp
    clear hc0 hf0
    replace GV := GV.far (q := gb) (k := ka) (by omega) (.int .i64 (lz))
    replace GB := GB.put hka HLl.out (lz)
    refine hK.out _ _ ⟨hHeld.1.chg (chg_one (Chg.refl gv (gb + 1) _) (by omega) (by omega) _) (by omega), hHeld.2.1.chg (chg_one (Chg.refl gv (gb + 1) _) (by omega) (by omega) _) (by omega), chg_one hHeld.2.2 (by omega) (by omega) _⟩ (fun hHeld' => ?_)
    clear hK K hHeld; have hHeld := hHeld'; clear hHeld'
    try simp only [ptl]
    refine wpAnyH_done (by kernel_rfl) ?_ _
    replace KA := Lib.hid hHeld.1
    replace KC := Lib.hid hHeld.2.1
    replace HC := Lib.hid hHeld.2.2
    replace GVx := Lib.hid GV
    replace GBx := Lib.hid GB
    clear hHeld GV GB
    go_wp2_with fail
    go_meet
    exact ⟨KA, KC, HC, GVx, GBx⟩
   refine AllReadyH.cons (o := ⟨some 94, _, _, _, _, _⟩) rfl (fun K hK => ?_) ?_
   ·
    have hc0 := GB.cell hkc
    rw [elc.out] at hc0
    go_simp
    clear hc0
    refine hK.out _ _ hHeld (fun hHeld' => ?_)
    clear hK K hHeld; have hHeld := hHeld'; clear hHeld'
    try simp only [ptl]
    refine rd1 (i := 12) (o := ⟨some 89, _, _, _, _, _⟩) rfl (fun K hK => ?_)
    have hc0 := GB.cell hkb
    rw [elb.out] at hc0
    go_simp
    clear hc0
    refine hK.out _ _ hHeld (fun hHeld' => ?_)
    clear hK K hHeld; have hHeld := hHeld'; clear hHeld'
    try simp only [ptl]
    refine rd1 (i := 18) (o := ⟨some 95, _, _, _, _, _⟩) rfl (fun K hK => ?_)
    go_simp
    refine Calls.mono (CJ.out _) ?_
    rintro e x1 ⟨rfl, hb1⟩
    replace GV := GV.new hb1
    replace GB := GB.new hb1
    refine hK.out _ _ ⟨hHeld.1.new hb1, hHeld.2.1.new hb1, Chg.trans hHeld.2.2 (chg_of_new hb1)⟩ (fun hHeld' => ?_)
    clear hK K hHeld hb1; have hHeld := hHeld'; clear hHeld'
    try simp only [ptl]
    refine rd1 (i := 19) (o := ⟨some 96, _, _, _, _, _⟩) rfl (fun K hK => ?_)
    go_simp
    refine Calls.mono (CK.out _) ?_
    rintro e x2 ⟨rfl, hb1⟩
    replace GV := GV.new hb1
    replace GB := GB.new hb1
    refine hK.out _ _ ⟨hHeld.1.new hb1, hHeld.2.1.new hb1, Chg.trans hHeld.2.2 (chg_of_new hb1)⟩ (fun hHeld' => ?_)
    clear hK K hHeld hb1; have hHeld := hHeld'; clear hHeld'
    try simp only [ptl]
    refine tz 20 97 hHeld ?_; try simp only [ptl]
    refine rd1 (i := 21) (o := ⟨none, _, _, _, _, _⟩) rfl (fun K hK => ?_)
    have hc0 := GB.cell hka
    have hf0 := GB.frozen ka
    go_simp
    clear hc0 hf0
    replace GV := GV.far (q := gb) (k := ka) (by omega) (.int .i64 (lz))
    replace GB := GB.put hka HLl.out (lz)
    refine hK.out _ _ ⟨hHeld.1.chg (chg_one (Chg.refl gv (gb + 1) _) (by omega) (by omega) _) (by omega), hHeld.2.1.chg (chg_one (Chg.refl gv (gb + 1) _) (by omega) (by omega) _) (by omega), chg_one hHeld.2.2 (by omega) (by omega) _⟩ (fun hHeld' => ?_)
    clear hK K hHeld; have hHeld := hHeld'; clear hHeld'
    try simp only [ptl]
    refine wpAnyH_done (by kernel_rfl) ?_ _
    replace KA := Lib.hid hHeld.1
    replace KC := Lib.hid hHeld.2.1
    replace HC := Lib.hid hHeld.2.2
    replace GVx := Lib.hid GV
    replace GBx := Lib.hid GB
    clear hHeld GV GB
    go_wp2_with fail
    go_meet
    exact ⟨KA, KC, HC, GVx, GBx⟩
   exact AllReadyH.nil
  refine AllReadyH.cons (o := ⟨some 89, _, _, _, _, _⟩) rfl (fun K hK => ?_) ?_
  ·
   have hc0 := GB.cell hkb
   rw [elb.out] at hc0
   go_simp
   clear hc0
   refine hK.out _ _ hHeld (fun hHeld' => ?_)
   clear hK K hHeld; have hHeld := hHeld'; clear hHeld'
   try simp only [ptl]
   refine wpAnyH_ready (rs := [7, 17]) (by kernel_rfl) (by simp) ?_
   refine AllReadyH.cons (o := ⟨some 84, _, _, _, _, _⟩) rfl (fun K hK => ?_) ?_
   ·
    have hc0 := GB.cell hka
    rw [ela.out] at hc0
    go_simp
    clear hc0
    refine hK.out _ _ hHeld (fun hHeld' => ?_)
    clear hK K hHeld; have hHeld := hHeld'; clear hHeld'
    try simp only [ptl]
    refine rd1 (i := 17) (o := ⟨some 94, _, _, _, _, _⟩) rfl (fun K hK => ?_)
    have hc0 := GB.cell hkc
    rw [elc.out] at hc0
    go_simp
    clear hc0
    refine hK.out _ _ hHeld (fun hHeld' => ?_)
    clear hK K hHeld; have hHeld := hHeld'; clear hHeld'
    try simp only [ptl]
    refine rd1 (i := 18) (o := ⟨some 95, _, _, _, _, _⟩) rfl (fun K hK => ?_)
    go_simp
    refine Calls.mono (CJ.out _) ?_
    rintro e x1 ⟨rfl, hb1⟩
    replace GV := GV.new hb1
    replace GB := GB.new hb1
    refine hK.out _ _ ⟨hHeld.1.new hb1, hHeld.2.1.new hb1, Chg.trans hHeld.2.2 (chg_of_new hb1)⟩ (fun hHeld' => ?_)
    clear hK K hHeld hb1; have hHeld := hHeld'; clear hHeld'
    try simp only [ptl]
    refine rd1 (i := 19) (o := ⟨some 96, _, _, _, _, _⟩) rfl (fun K hK => ?_)
    go_simp
    refine Calls.mono (CK.out _) ?_
    rintro e x2 ⟨rfl, hb1⟩
    replace GV := GV.new hb1
    replace GB := GB.new hb1
    refine hK.out _ _ ⟨hHeld.1.new hb1, hHeld.2.1.new hb1, Chg.trans hHeld.2.2 (chg_of_new hb1)⟩ (fun hHeld' => ?_)
    clear hK K hHeld hb1; have hHeld := hHeld'; clear hHeld'
    try simp only [ptl]
    refine tz 20 97 hHeld ?_; try simp only [ptl]
    refine rd1 (i := 21) (o := ⟨none, _, _, _, _, _⟩) rfl (fun K hK => ?_)
    have hc0 := GB.cell hka
    have hf0 := GB.frozen ka
    go_simp
    clear hc0 hf0
    replace GV := GV.far (q := gb) (k := ka) (by omega) (.int .i64 (lz))
    replace GB := GB.put hka HLl.out (lz)
    refine hK.out _ _ ⟨hHeld.1.chg (chg_one (Chg.refl gv (gb + 1) _) (by omega) (by omega) _) (by omega), hHeld.2.1.chg (chg_one (Chg.refl gv (gb + 1) _) (by omega) (by omega) _) (by omega), chg_one hHeld.2.2 (by omega) (by omega) _⟩ (fun hHeld' => ?_)
    clear hK K hHeld; have hHeld := hHeld'; clear hHeld'
    try simp only [ptl]
    refine wpAnyH_done (by kernel_rfl) ?_ _
    replace KA := Lib.hid hHeld.1
    replace KC := Lib.hid hHeld.2.1
    replace HC := Lib.hid hHeld.2.2
    replace GVx := Lib.hid GV
    replace GBx := Lib.hid GB
    clear hHeld GV GB
    go_wp2_with fail
    go_meet
    exact ⟨KA, KC, HC, GVx, GBx⟩
   refine AllReadyH.cons (o := ⟨some 94, _, _, _, _, _⟩) rfl (fun K hK => ?_) ?_
   ·
    have hc0 := GB.cell hkc
    rw [elc.out] at hc0
    go_simp
    clear hc0
    refine hK.out _ _ hHeld (fun hHeld' => ?_)
    clear hK K hHeld; have hHeld := hHeld'; clear hHeld'
    try simp only [ptl]
    refine wpAnyH_ready (rs := [7, 18]) (by kernel_rfl) (by simp) ?_
    refine AllReadyH.cons (o := ⟨some 84, _, _, _, _, _⟩) rfl (fun K hK => ?_) ?_
    ·
     have hc0 := GB.cell hka
     rw [ela.out] at hc0
     go_simp
     clear hc0
     refine hK.out _ _ hHeld (fun hHeld' => ?_)
     clear hK K hHeld; have hHeld := hHeld'; clear hHeld'
     try simp only [ptl]
     refine rd1 (i := 18) (o := ⟨some 95, _, _, _, _, _⟩) rfl (fun K hK => ?_)
     go_simp
     refine Calls.mono (CJ.out _) ?_
     rintro e x1 ⟨rfl, hb1⟩
     replace GV := GV.new hb1
     replace GB := GB.new hb1
     refine hK.out _ _ ⟨hHeld.1.new hb1, hHeld.2.1.new hb1, Chg.trans hHeld.2.2 (chg_of_new hb1)⟩ (fun hHeld' => ?_)
     clear hK K hHeld hb1; have hHeld := hHeld'; clear hHeld'
     try simp only [ptl]
     refine rd1 (i := 19) (o := ⟨some 96, _, _, _, _, _⟩) rfl (fun K hK => ?_)
     go_simp
     refine Calls.mono (CK.out _) ?_
     rintro e x2 ⟨rfl, hb1⟩
     replace GV := GV.new hb1
     replace GB := GB.new hb1
     refine hK.out _ _ ⟨hHeld.1.new hb1, hHeld.2.1.new hb1, Chg.trans hHeld.2.2 (chg_of_new hb1)⟩ (fun hHeld' => ?_)
     clear hK K hHeld hb1; have hHeld := hHeld'; clear hHeld'
     try simp only [ptl]
     refine tz 20 97 hHeld ?_; try simp only [ptl]
     refine rd1 (i := 21) (o := ⟨none, _, _, _, _, _⟩) rfl (fun K hK => ?_)
     have hc0 := GB.cell hka
     have hf0 := GB.frozen ka
     go_simp
     clear hc0 hf0
     replace GV := GV.far (q := gb) (k := ka) (by omega) (.int .i64 (lz))
     replace GB := GB.put hka HLl.out (lz)
     refine hK.out _ _ ⟨hHeld.1.chg (chg_one (Chg.refl gv (gb + 1) _) (by omega) (by omega) _) (by omega), hHeld.2.1.chg (chg_one (Chg.refl gv (gb + 1) _) (by omega) (by omega) _) (by omega), chg_one hHeld.2.2 (by omega) (by omega) _⟩ (fun hHeld' => ?_)
     clear hK K hHeld; have hHeld := hHeld'; clear hHeld'
     try simp only [ptl]
     refine wpAnyH_done (by kernel_rfl) ?_ _
     replace KA := Lib.hid hHeld.1
     replace KC := Lib.hid hHeld.2.1
     replace HC := Lib.hid hHeld.2.2
     replace GVx := Lib.hid GV
     replace GBx := Lib.hid GB
     clear hHeld GV GB
     go_wp2_with fail
     go_meet
     exact ⟨KA, KC, HC, GVx, GBx⟩
    refine AllReadyH.cons (o := ⟨some 95, _, _, _, _, _⟩) rfl (fun K hK => ?_) ?_
    ·
     go_simp
     refine Calls.mono (CJ.out _) ?_
     rintro e x1 ⟨rfl, hb1⟩
     replace GV := GV.new hb1
     replace GB := GB.new hb1
     refine hK.out _ _ ⟨hHeld.1.new hb1, hHeld.2.1.new hb1, Chg.trans hHeld.2.2 (chg_of_new hb1)⟩ (fun hHeld' => ?_)
     clear hK K hHeld hb1; have hHeld := hHeld'; clear hHeld'
     try simp only [ptl]
     refine rd1 (i := 7) (o := ⟨some 84, _, _, _, _, _⟩) rfl (fun K hK => ?_)
     have hc0 := GB.cell hka
     rw [ela.out] at hc0
     go_simp
     clear hc0
     refine hK.out _ _ hHeld (fun hHeld' => ?_)
     clear hK K hHeld; have hHeld := hHeld'; clear hHeld'
     try simp only [ptl]
     refine rd1 (i := 19) (o := ⟨some 96, _, _, _, _, _⟩) rfl (fun K hK => ?_)
     go_simp
     refine Calls.mono (CK.out _) ?_
     rintro e x2 ⟨rfl, hb1⟩
     replace GV := GV.new hb1
     replace GB := GB.new hb1
     refine hK.out _ _ ⟨hHeld.1.new hb1, hHeld.2.1.new hb1, Chg.trans hHeld.2.2 (chg_of_new hb1)⟩ (fun hHeld' => ?_)
     clear hK K hHeld hb1; have hHeld := hHeld'; clear hHeld'
     try simp only [ptl]
     refine tz 20 97 hHeld ?_; try simp only [ptl]
     refine rd1 (i := 21) (o := ⟨none, _, _, _, _, _⟩) rfl (fun K hK => ?_)
     have hc0 := GB.cell hka
     have hf0 := GB.frozen ka
     go_simp
     clear hc0 hf0
     replace GV := GV.far (q := gb) (k := ka) (by omega) (.int .i64 (lz))
     replace GB := GB.put hka HLl.out (lz)
     refine hK.out _ _ ⟨hHeld.1.chg (chg_one (Chg.refl gv (gb + 1) _) (by omega) (by omega) _) (by omega), hHeld.2.1.chg (chg_one (Chg.refl gv (gb + 1) _) (by omega) (by omega) _) (by omega), chg_one hHeld.2.2 (by omega) (by omega) _⟩ (fun hHeld' => ?_)
     clear hK K hHeld; have hHeld := hHeld'; clear hHeld'
     try simp only [ptl]
     refine wpAnyH_done (by kernel_rfl) ?_ _
     replace KA := Lib.hid hHeld.1
     replace KC := Lib.hid hHeld.2.1
     replace HC := Lib.hid hHeld.2.2
     replace GVx := Lib.hid GV
     replace GBx := Lib.hid GB
     clear hHeld GV GB
     go_wp2_with fail
     go_meet
     exact ⟨KA, KC, HC, GVx, GBx⟩
    exact AllReadyH.nil
   exact AllReadyH.nil
  refine AllReadyH.cons (o := ⟨some 94, _, _, _, _, _⟩) rfl (fun K hK => ?_) ?_
  ·
   have hc0 := GB.cell hkc
   rw [elc.out] at hc0
   go_simp
   clear hc0
   refine hK.out _ _ hHeld (fun hHeld' => ?_)
   clear hK K hHeld; have hHeld := hHeld'; clear hHeld'
   try simp only [ptl]
   refine wpAnyH_ready (rs := [7, 12]) (by kernel_rfl) (by simp) ?_
   refine AllReadyH.cons (o := ⟨some 84, _, _, _, _, _⟩) rfl (fun K hK => ?_) ?_
   ·
    have hc0 := GB.cell hka
    rw [ela.out] at hc0
    go_simp
    clear hc0
    refine hK.out _ _ hHeld (fun hHeld' => ?_)
    clear hK K hHeld; have hHeld := hHeld'; clear hHeld'
    try simp only [ptl]
    refine rd1 (i := 12) (o := ⟨some 89, _, _, _, _, _⟩) rfl (fun K hK => ?_)
    have hc0 := GB.cell hkb
    rw [elb.out] at hc0
    go_simp
    clear hc0
    refine hK.out _ _ hHeld (fun hHeld' => ?_)
    clear hK K hHeld; have hHeld := hHeld'; clear hHeld'
    try simp only [ptl]
    refine rd1 (i := 18) (o := ⟨some 95, _, _, _, _, _⟩) rfl (fun K hK => ?_)
    go_simp
    refine Calls.mono (CJ.out _) ?_
    rintro e x1 ⟨rfl, hb1⟩
    replace GV := GV.new hb1
    replace GB := GB.new hb1
    refine hK.out _ _ ⟨hHeld.1.new hb1, hHeld.2.1.new hb1, Chg.trans hHeld.2.2 (chg_of_new hb1)⟩ (fun hHeld' => ?_)
    clear hK K hHeld hb1; have hHeld := hHeld'; clear hHeld'
    try simp only [ptl]
    refine rd1 (i := 19) (o := ⟨some 96, _, _, _, _, _⟩) rfl (fun K hK => ?_)
    go_simp
    refine Calls.mono (CK.out _) ?_
    rintro e x2 ⟨rfl, hb1⟩
    replace GV := GV.new hb1
    replace GB := GB.new hb1
    refine hK.out _ _ ⟨hHeld.1.new hb1, hHeld.2.1.new hb1, Chg.trans hHeld.2.2 (chg_of_new hb1)⟩ (fun hHeld' => ?_)
    clear hK K hHeld hb1; have hHeld := hHeld'; clear hHeld'
    try simp only [ptl]
    refine tz 20 97 hHeld ?_; try simp only [ptl]
    refine rd1 (i := 21) (o := ⟨none, _, _, _, _, _⟩) rfl (fun K hK => ?_)
    have hc0 := GB.cell hka
    have hf0 := GB.frozen ka
    go_simp
    clear hc0 hf0
    replace GV := GV.far (q := gb) (k := ka) (by omega) (.int .i64 (lz))
    replace GB := GB.put hka HLl.out (lz)
    refine hK.out _ _ ⟨hHeld.1.chg (chg_one (Chg.refl gv (gb + 1) _) (by omega) (by omega) _) (by omega), hHeld.2.1.chg (chg_one (Chg.refl gv (gb + 1) _) (by omega) (by omega) _) (by omega), chg_one hHeld.2.2 (by omega) (by omega) _⟩ (fun hHeld' => ?_)
    clear hK K hHeld; have hHeld := hHeld'; clear hHeld'
    try simp only [ptl]
    refine wpAnyH_done (by kernel_rfl) ?_ _
    replace KA := Lib.hid hHeld.1
    replace KC := Lib.hid hHeld.2.1
    replace HC := Lib.hid hHeld.2.2
    replace GVx := Lib.hid GV
    replace GBx := Lib.hid GB
    clear hHeld GV GB
    go_wp2_with fail
    go_meet
    exact ⟨KA, KC, HC, GVx, GBx⟩
   refine AllReadyH.cons (o := ⟨some 89, _, _, _, _, _⟩) rfl (fun K hK => ?_) ?_
   ·
    have hc0 := GB.cell hkb
    rw [elb.out] at hc0
    go_simp
    clear hc0
    refine hK.out _ _ hHeld (fun hHeld' => ?_)
    clear hK K hHeld; have hHeld := hHeld'; clear hHeld'
    try simp only [ptl]
    refine wpAnyH_ready (rs := [7, 18]) (by kernel_rfl) (by simp) ?_
    refine AllReadyH.cons (o := ⟨some 84, _, _, _, _, _⟩) rfl (fun K hK => ?_) ?_
    ·
     have hc0 := GB.cell hka
     rw [ela.out] at hc0
     go_simp
     clear hc0
     refine hK.out _ _ hHeld (fun hHeld' => ?_)
     clear hK K hHeld; have hHeld := hHeld'; clear hHeld'
     try simp only [ptl]
     refine rd1 (i := 18) (o := ⟨some 95, _, _, _, _, _⟩) rfl (fun K hK => ?_)
     go_simp
     refine Calls.mono (CJ.out _) ?_
     rintro e x1 ⟨rfl, hb1⟩
     replace GV := GV.new hb1
     replace GB := GB.new hb1
     refine hK.out _ _ ⟨hHeld.1.new hb1, hHeld.2.1.new hb1, Chg.trans hHeld.2.2 (chg_of_new hb1)⟩ (fun hHeld' => ?_)
     clear hK K hHeld hb1; have hHeld := hHeld'; clear hHeld'
     try simp only [ptl]
     refine rd1 (i := 19) (o := ⟨some 96, _, _, _, _, _⟩) rfl (fun K hK => ?_)
     go_simp
     refine Calls.mono (CK.out _) ?_
     rintro e x2 ⟨rfl, hb1⟩
     replace GV := GV.new hb1
     replace GB := GB.new hb1
     refine hK.out _ _ ⟨hHeld.1.new hb1, hHeld.2.1.new hb1, Chg.trans hHeld.2.2 (chg_of_new hb1)⟩ (fun hHeld' => ?_)
     clear hK K hHeld hb1; have hHeld := hHeld'; clear hHeld'
     try simp only [ptl]
     refine tz 20 97 hHeld ?_; try simp only [ptl]
     refine rd1 (i := 21) (o := ⟨none, _, _, _, _, _⟩) rfl (fun K hK => ?_)
     have hc0 := GB.cell hka
     have hf0 := GB.frozen ka
     go_simp
     clear hc0 hf0
     replace GV := GV.far (q := gb) (k := ka) (by omega) (.int .i64 (lz))
     replace GB := GB.put hka HLl.out (lz)
     refine hK.out _ _ ⟨hHeld.1.chg (chg_one (Chg.refl gv (gb + 1) _) (by omega) (by omega) _) (by omega), hHeld.2.1.chg (chg_one (Chg.refl gv (gb + 1) _) (by omega) (by omega) _) (by omega), chg_one hHeld.2.2 (by omega) (by omega) _⟩ (fun hHeld' => ?_)
     clear hK K hHeld; have hHeld := hHeld'; clear hHeld'
     try simp only [ptl]
     refine wpAnyH_done (by kernel_rfl) ?_ _
     replace KA := Lib.hid hHeld.1
     replace KC := Lib.hid hHeld.2.1
     replace HC := Lib.hid hHeld.2.2
     replace GVx := Lib.hid GV
     replace GBx := Lib.hid GB
     clear hHeld GV GB
     go_wp2_with fail
     go_meet
     exact ⟨KA, KC, HC, GVx, GBx⟩
    refine AllReadyH.cons (o := ⟨some 95, _, _, _, _, _⟩) rfl (fun K hK => ?_) ?_
    ·
     go_simp
     refine Calls.mono (CJ.out _) ?_
     rintro e x1 ⟨rfl, hb1⟩
     replace GV := GV.new hb1
     replace GB := GB.new hb1
     refine hK.out _ _ ⟨hHeld.1.new hb1, hHeld.2.1.new hb1, Chg.trans hHeld.2.2 (chg_of_new hb1)⟩ (fun hHeld' => ?_)
     clear hK K hHeld hb1; have hHeld := hHeld'; clear hHeld'
     try simp only [ptl]
     refine rd1 (i := 7) (o := ⟨some 84, _, _, _, _, _⟩) rfl (fun K hK => ?_)
     have hc0 := GB.cell hka
     rw [ela.out] at hc0
     go_simp
     clear hc0
     refine hK.out _ _ hHeld (fun hHeld' => ?_)
     clear hK K hHeld; have hHeld := hHeld'; clear hHeld'
     try simp only [ptl]
     refine rd1 (i := 19) (o := ⟨some 96, _, _, _, _, _⟩) rfl (fun K hK => ?_)
     go_simp
     refine Calls.mono (CK.out _) ?_
     rintro e x2 ⟨rfl, hb1⟩
     replace GV := GV.new hb1
     replace GB := GB.new hb1
     refine hK.out _ _ ⟨hHeld.1.new hb1, hHeld.2.1.new hb1, Chg.trans hHeld.2.2 (chg_of_new hb1)⟩ (fun hHeld' => ?_)
     clear hK K hHeld hb1; have hHeld := hHeld'; clear hHeld'
     try simp only [ptl]
     refine tz 20 97 hHeld ?_; try simp only [ptl]
     refine rd1 (i := 21) (o := ⟨none, _, _, _, _, _⟩) rfl (fun K hK => ?_)
     have hc0 := GB.cell hka
     have hf0 := GB.frozen ka
     go_simp
     clear hc0 hf0
     replace GV := GV.far (q := gb) (k := ka) (by omega) (.int .i64 (lz))
     replace GB := GB.put hka HLl.out (lz)
     refine hK.out _ _ ⟨hHeld.1.chg (chg_one (Chg.refl gv (gb + 1) _) (by omega) (by omega) _) (by omega), hHeld.2.1.chg (chg_one (Chg.refl gv (gb + 1) _) (by omega) (by omega) _) (by omega), chg_one hHeld.2.2 (by omega) (by omega) _⟩ (fun hHeld' => ?_)
     clear hK K hHeld; have hHeld := hHeld'; clear hHeld'
     try simp only [ptl]
     refine wpAnyH_done (by kernel_rfl) ?_ _
     replace KA := Lib.hid hHeld.1
     replace KC := Lib.hid hHeld.2.1
     replace HC := Lib.hid hHeld.2.2
     replace GVx := Lib.hid GV
     replace GBx := Lib.hid GB
     clear hHeld GV GB
     go_wp2_with fail
     go_meet
     exact ⟨KA, KC, HC, GVx, GBx⟩
    exact AllReadyH.nil
   exact AllReadyH.nil
  exact AllReadyH.nil
 case rest =>
  clear KA KC HC GVx GBx
  obtain ⟨KA, KC, HC, GVx, GBx⟩ := hcut
  rename World => wx
  have v0 := GVx.out.cell hkb
  rw [evb.out] at v0
  have hee := hev.out
  obtain ⟨ka0, ka1, ka2, ka3⟩ := KA.out.p4
  cases ev with
  | true =>
   go_upto_region 14 with fail
   clear v0 ka0 ka1 ka2 ka3
   have GV : IRow (World.drew _) gv cv _ := GVx.out.drw
   have GB : IRow (World.drew _) gb cb _ := GBx.out.drw
   refine wp_region_held_drew (S := fun w' => BoxAt w' w.heap.size 130 #[.int .i64 4, .int .i64 (ka : Int), .int .i64 (kb : Int), .int .i64 (kc : Int)] ∧ BoxAt w' (w.heap.size + 1) 207 #[.int .i64 0, .int .i64 0, .int .i64 0] ∧ Chg gv (gb + 1) w w') (by kernel_rfl) ?_ (fun hHeld => ?_)
   ·
    exact ⟨KA.out.drw, KC.out.drw, HC.out.drewN 1⟩
   generalize (World.drew _) = x0 at hHeld GV GB ⊢
   refine tz 0 105 hHeld ?_; try simp only [ptl]
   refine tz 1 106 hHeld ?_; try simp only [ptl]
   refine tl 2 107 hHeld rfl ?_ (by intro W hS; obtain ⟨c0_0, c0_1, c0_2, c0_3⟩ := (hS.1).p4; obtain ⟨c1_0, c1_1, c1_2⟩ := (hS.2.1).p3; clear hS; go_simp; try with_reducible rfl); try simp only [ptl]
   refine tz 3 108 hHeld ?_; try simp only [ptl]
   refine tz 4 109 hHeld ?_; try simp only [ptl]
   refine tl 5 110 hHeld rfl ?_ (by intro W hS; obtain ⟨c0_0, c0_1, c0_2, c0_3⟩ := (hS.1).p4; obtain ⟨c1_0, c1_1, c1_2⟩ := (hS.2.1).p3; clear hS; go_simp; try with_reducible rfl); try simp only [ptl]
   refine tz 6 111 hHeld ?_; try simp only [ptl]
   refine rd1 (i := 7) (o := ⟨some 112, _, _, _, _, _⟩) rfl (fun K hK => ?_)
   have hc0 := GV.cell hkc
   rw [evc.out] at hc0
   go_simp
   clear hc0
   refine hK.out _ _ hHeld (fun hHeld' => ?_)
   clear hK K hHeld; have hHeld := hHeld'; clear hHeld'
   try simp only [ptl]
   refine tz 8 113 hHeld ?_; try simp only [ptl]
   refine rd1 (i := 9) (o := ⟨none, _, _, _, _, _⟩) rfl (fun K hK => ?_)
   have hc0 := GV.cell hka
   have hf0 := GV.frozen ka
   go_simp
   clear hc0 hf0
   replace GB := GB.far (q := gv) (k := ka) (by omega) (.int .i64 (vc))
   replace GV := GV.put hka HVl.out (vc)
   refine hK.out _ _ ⟨hHeld.1.chg (chg_one (Chg.refl gv (gb + 1) _) (by omega) (by omega) _) (by omega), hHeld.2.1.chg (chg_one (Chg.refl gv (gb + 1) _) (by omega) (by omega) _) (by omega), chg_one hHeld.2.2 (by omega) (by omega) _⟩ (fun hHeld' => ?_)
   clear hK K hHeld; have hHeld := hHeld'; clear hHeld'
   try simp only [ptl]
   refine wpAnyH_done (by kernel_rfl) ?_ _
   replace KA := Lib.hid hHeld.1
   replace KC := Lib.hid hHeld.2.1
   replace HC := Lib.hid hHeld.2.2
   replace GVx := Lib.hid GV
   replace GBx := Lib.hid GB
   clear hHeld GV GB
   go_wp2_with (refine wpList_store_row rfl 207 _ _ rfl (w.heap.size + 1) #[.int .i64 0, .int .i64 0, .int .i64 0] rfl rfl 207 _ KC.out (by kernel_rfl) (by kernel_rfl) (by kernel_rfl) ?_)
   have e0 := (box_row (cs := #[.int .i64 0, .int .i64 0, .int .i64 0]) KC.out).at_ (j := 0) rfl
   have e1 := (box_row (cs := #[.int .i64 0, .int .i64 0, .int .i64 0]) KC.out).at_ (j := 1) rfl
   have e2 := (box_row (cs := #[.int .i64 0, .int .i64 0, .int .i64 0]) KC.out).at_ (j := 2) rfl
   exact bodyPost_ret (v := .tuple #[.agg #[.int .i64 0, .int .i64 0, .int .i64 0], .bool false]) (by simp [results, Tryz.results174, go_sem, e0, e1, e2]) rfl ⟨rfl, irow_row GVx.out _ (by omega), irow_row GBx.out _ (by omega), chg_row_new HC.out (by omega) _⟩
  | false =>
   replace GVx := Lib.hid (show IRow _ gv cv (v.set ka va) by rw [SV.out]; exact GVx.out)
   go_upto_region 17 with fail
   clear v0 ka0 ka1 ka2 ka3
   go_wp2_with (refine wpList_store_row rfl 207 _ _ rfl (w.heap.size + 1) #[.int .i64 0, .int .i64 0, .int .i64 0] rfl rfl 207 _ KC.out (by kernel_rfl) (by kernel_rfl) (by kernel_rfl) ?_)
   have e0 := (box_row (cs := #[.int .i64 0, .int .i64 0, .int .i64 0]) KC.out).at_ (j := 0) rfl
   have e1 := (box_row (cs := #[.int .i64 0, .int .i64 0, .int .i64 0]) KC.out).at_ (j := 1) rfl
   have e2 := (box_row (cs := #[.int .i64 0, .int .i64 0, .int .i64 0]) KC.out).at_ (j := 2) rfl
   exact bodyPost_ret (v := .tuple #[.agg #[.int .i64 0, .int .i64 0, .int .i64 0], .bool false]) (by simp [results, Tryz.results174, go_sem, e0, e1, e2]) rfl ⟨rfl, irow_row GVx.out _ (by omega), irow_row GBx.out _ (by omega), chg_row_new HC.out (by omega) _⟩
end Go.Proofs.YtkedacmpmancbaaGreatDoor
namespace Go.Proofs.YtkedacmpmancbaaGreatDoor
open Go Go.ChangeShapes Go.WideShapes Go.ChangeAt Go.RowKit Go.Lib
set_option linter.unusedVariables false
set_option linter.unusedSimpArgs false
set_option maxRecDepth 100000
set_option maxHeartbeats 16000000 in
theorem st_5 (o : TOp) (vals : List Int) (A : Option Addr) (n c lo hi gv cv gb cb : Nat) (v b : List Int) (w : World) (hn : n ≤ 1048576) (hr : Rd w lo hi 1 A n (i64s vals)) (hhi : hi ≤ gv) (ho : mOp o = true) (hk : o.f0 = 5) (hv : v.length = 6 ∧ ∀ z ∈ v, 0 ≤ z ∧ z ≤ 999) (hb : b.length = 6 ∧ ∀ z ∈ b, mIsLabel z = true) (hV : IRow w gv cv v) (hB : IRow w gb cb b) (hg : gv < gb) :
  Calls Tryz.prog 174 #[.agg #[.int .i64 o.f0, .int .i64 o.f1, .int .i64 o.f2, .int .i64 o.f3], .slice A n c, .slice (some ⟨gv, 0, none⟩) 6 cv, .slice (some ⟨gb, 0, none⟩) 6 cb] w (fun e w' => e = .returned (.tuple #[.agg #[.int .i64 (mSs o v b).f0, .int .i64 (mSs o v b).f1, .int .i64 (mSs o v b).f2], .bool (o.f0 == 5)]) ∧ IRow w' gv cv (mStV o vals v) ∧ IRow w' gb cb (mStB o b) ∧ Chg gv (gb + 1) w w') := by
 obtain ⟨qa, h2, h3⟩ := mOp_12 ho (.inr hk)
 obtain ⟨ka, e1, hka⟩ := mReg_n qa
 rw [e1] at qa
 obtain ⟨va, eva⟩ : ∃ z, Hid (v.getD ka 0 = z) := ⟨_, Lib.hid rfl⟩
 obtain ⟨ba, ela⟩ : ∃ z, Hid (b.getD ka 0 = z) := ⟨_, Lib.hid rfl⟩
 have hva : 0 ≤ va ∧ va ≤ 999 := by have h0 := gI_in (P := fun z => 0 ≤ z ∧ z ≤ 999) hv (k := (ka : Int)) qa; rw [← eva.out]; simpa [gI] using h0
 have hba : mIsLabel ba = true := by have h0 := gI_in (P := fun z => mIsLabel z = true) hb (k := (ka : Int)) qa; rw [← ela.out]; simpa [gI] using h0
 have hkia : (ka : Int) < 6 := by omega
 have EV : mStV o vals v = v := by unfold mStV; simp [hk]
 have EB : mStB o b = b := by unfold mStB; simp [hk]
 have ES : mSs o v b = ⟨o.f2, va, ba⟩ := by unfold mSs; rw [if_pos hk, e1, ← eva.out, ← ela.out]; rfl
 have E5 : (o.f0 == 5) = true := by simp [hk]
 rw [EV, EB, ES, E5, hk, e1]
 clear EV EB ES E5 e1 hva hba qa h2 h3
 have HVl := Lib.hid hv.1
 have HLl := Lib.hid hb.1
 have hgs := hB.lt
 have hgw := hV.lt
 have KA := Lib.hid ((box_new w 130 #[.int .i64 5, .int .i64 (ka : Int), .int .i64 o.f2, .int .i64 o.f3]).alloc_ (.cells #[.int .i64 0, .int .i64 0, .int .i64 0] 207))
 have KC := Lib.hid (show BoxAt ((w.alloc (.cells #[.int .i64 5, .int .i64 (ka : Int), .int .i64 o.f2, .int .i64 o.f3] 130)).alloc (.cells #[.int .i64 0, .int .i64 0, .int .i64 0] 207)) (w.heap.size + 1) 207 #[.int .i64 0, .int .i64 0, .int .i64 0] by simpa using box_new (w.alloc (.cells #[.int .i64 5, .int .i64 (ka : Int), .int .i64 o.f2, .int .i64 o.f3] 130)) 207 #[.int .i64 0, .int .i64 0, .int .i64 0])
 have HC := Lib.hid (((Chg.refl gv (gb + 1) w).alloc (.cells #[.int .i64 5, .int .i64 (ka : Int), .int .i64 o.f2, .int .i64 o.f3] 130)).alloc (.cells #[.int .i64 0, .int .i64 0, .int .i64 0] 207))
 have GVx := Lib.hid (show IRow ((w.alloc (.cells #[.int .i64 5, .int .i64 (ka : Int), .int .i64 o.f2, .int .i64 o.f3] 130)).alloc (.cells #[.int .i64 0, .int .i64 0, .int .i64 0] 207)) gv cv v from (hV.alloc _).alloc _)
 have GBx := Lib.hid (show IRow ((w.alloc (.cells #[.int .i64 5, .int .i64 (ka : Int), .int .i64 o.f2, .int .i64 o.f3] 130)).alloc (.cells #[.int .i64 0, .int .i64 0, .int .i64 0] 207)) gb cb b from (hB.alloc _).alloc _)
 clear hr hv hb hV hB ho hk hn
 go_enter Tryz.func174, Tryz.ntmps174
 go_upto_region 16 with fail
 generalize ((w.alloc (.cells #[.int .i64 5, .int .i64 (ka : Int), .int .i64 o.f2, .int .i64 o.f3] 130)).alloc (.cells #[.int .i64 0, .int .i64 0, .int .i64 0] 207)) = wx at KA KC HC GVx GBx ⊢
 obtain ⟨ka0, ka1, ka2, ka3⟩ := KA.out.p4
 have v0 := GVx.out.cell hka
 rw [eva.out] at v0
 have b0 := GBx.out.cell hka
 rw [ela.out] at b0
 go_still_tail 13, (by kernel_rfl)
 clear v0 b0 ka0 ka1 ka2 ka3
 change wpList _ _ _ _ _ (World.drew wx)
 replace KA := Lib.hid KA.out.drw
 replace KC := Lib.hid KC.out.drw
 replace HC := Lib.hid (HC.out.drewN 1)
 replace GVx := Lib.hid GVx.out.drw
 replace GBx := Lib.hid GBx.out.drw
 replace HC := Lib.hid (show Chg gv (gb + 1) w (World.drew wx) from HC.out)
 generalize World.drew wx = wy at KA KC HC GVx GBx ⊢
 go_wp2_with (refine wpList_store_row rfl 207 _ _ rfl (w.heap.size + 1) #[.int .i64 o.f2, .int .i64 va, .int .i64 ba] rfl rfl 207 _ KC.out (by kernel_rfl) (by kernel_rfl) (by kernel_rfl) ?_)
 have e0 := (box_row (cs := #[.int .i64 o.f2, .int .i64 va, .int .i64 ba]) KC.out).at_ (j := 0) rfl
 have e1 := (box_row (cs := #[.int .i64 o.f2, .int .i64 va, .int .i64 ba]) KC.out).at_ (j := 1) rfl
 have e2 := (box_row (cs := #[.int .i64 o.f2, .int .i64 va, .int .i64 ba]) KC.out).at_ (j := 2) rfl
 exact bodyPost_ret (v := .tuple #[.agg #[.int .i64 o.f2, .int .i64 va, .int .i64 ba], .bool true]) (by simp [results, Tryz.results174, go_sem, e0, e1, e2]) rfl ⟨rfl, irow_row GVx.out _ (by omega), irow_row GBx.out _ (by omega), chg_row_new HC.out (by omega) _⟩
theorem spec_step (o : TOp) (vals : List Int) (A : Option Addr) (n c lo hi gv cv gb cb : Nat) (v b : List Int) (w : World) (hn : n ≤ 1048576) (hr : Rd w lo hi 1 A n (i64s vals)) (hhi : hi ≤ gv) (ho : mOp o = true) (hv : v.length = 6 ∧ ∀ z ∈ v, 0 ≤ z ∧ z ≤ 999) (hb : b.length = 6 ∧ ∀ z ∈ b, mIsLabel z = true) (hV : IRow w gv cv v) (hB : IRow w gb cb b) (hg : gv < gb) :
  Calls Tryz.prog 174 #[.agg #[.int .i64 o.f0, .int .i64 o.f1, .int .i64 o.f2, .int .i64 o.f3], .slice A n c, .slice (some ⟨gv, 0, none⟩) 6 cv, .slice (some ⟨gb, 0, none⟩) 6 cb] w (fun e w' => e = .returned (.tuple #[.agg #[.int .i64 (mSs o v b).f0, .int .i64 (mSs o v b).f1, .int .i64 (mSs o v b).f2], .bool (o.f0 == 5)]) ∧ IRow w' gv cv (mStV o vals v) ∧ IRow w' gb cb (mStB o b) ∧ Chg gv (gb + 1) w w') := by
 rcases mOp_k ho with h | h | h | h | h
 ·
  exact st_1 o vals A n c lo hi gv cv gb cb v b w hn hr hhi ho h hv hb hV hB hg
 ·
  exact st_2 o vals A n c lo hi gv cv gb cb v b w hn hr hhi ho h hv hb hV hB hg
 ·
  exact st_3 o vals A n c lo hi gv cv gb cb v b w hn hr hhi ho h hv hb hV hB hg
 ·
  exact st_4 o vals A n c lo hi gv cv gb cb v b w hn hr hhi ho h hv hb hV hB hg
 ·
  exact st_5 o vals A n c lo hi gv cv gb cb v b w hn hr hhi ho h hv hb hV hB hg
end Go.Proofs.YtkedacmpmancbaaGreatDoor
namespace Go.Proofs.YtkedacmpmancbaaGreatDoor
open Go Go.ChangeShapes Go.WideShapes Go.ChangeAt Go.RowKit Go.Lib
set_option linter.unusedVariables false
set_option linter.unusedSimpArgs false
set_option maxRecDepth 100000

theorem sent_step {x : TOp} {v b : List Int} (ho : mOp x = true) (hb : b.length = 6 ∧ ∀ z ∈ b, mIsLabel z = true) : mIsLabel (mSs x v b).f2 = true ∧ mSd x v b = if (x.f0 == 5) = true then [mSs x v b] else [] := by
 unfold mSs mSd
 by_cases h5 : x.f0 = 5
 ·
  rw [if_pos h5, if_pos h5, if_pos (by simp [h5])]
  exact ⟨gI_in (P := fun z => mIsLabel z = true) hb (mOp_12 ho (.inr h5)).1, rfl⟩
 ·
  rw [if_neg h5, if_neg h5, if_neg (by simp [h5])]
  exact ⟨by decide, rfl⟩
theorem own_chgN {w w' : World} {base lo hi size n : Nat} {e : TypeId} {v : Value} {xs : List Value} (h : w.ownsRow base e size v n xs) (hc : Chg lo hi w w') (hb : hi ≤ base) : w'.ownsRow base e size v n xs := by
 refine ⟨h.1, ?_⟩
 rcases h.2 with hn | ⟨g, cap, cur, hv, hg, hh, rest⟩
 ·
  exact .inl hn
 ·
  exact .inr ⟨g, cap, cur, hv, hg, by rw [hc.block g (Array.getElem?_eq_some_iff.1 hh).1 (by omega)]; exact hh, rest⟩
theorem irow_T {w w' : World} {g c q base : Nat} {E : TypeId} {l : List Int} (h : IRow w g c l) (hc : ChgT q base E w w') (hq : g ≠ q) (hg : g < base) : IRow w' g c l := h.keep (hc.block g h.lt hq (.inl hg))
theorem rd_of_holdv {w : World} {base n : Nat} {v : Value} {xs : List Value} (h : OwnZ w base 109 3 v n xs) : ∃ A c, v = .slice A n c ∧ Rd w base w.heap.size 3 A n xs := by
 obtain ⟨A', c', e, hF⟩ := fr_of_ownz h
 exact ⟨A', c', e, hF.rd⟩
set_option maxHeartbeats 16000000 in
theorem spec_NeedsFlows (l : List TOp) (A : Option Addr) (n c lo hi : Nat) (ext : Int) (w : World) (hn : n ≤ 1048576) (hr : Rd w lo hi 4 A n (cOp l)) (hcap : n ≤ c) (H : Hid (cOpOk l)) (we : (Lit.int .i64 ext).wf = true) :
  Calls Tryz.prog 125 #[.slice A n c, .int .i64 ext] w (Makes 109 3 (mNeed l ext).length (cFlow (mNeed l ext)) w) := by
 have HL := Lib.hid (rd_len TOp.len hr (by decide))
 have HR := Lib.hid hr
 have CA := Lib.hid (fun W (hb : Below w.heap.size w W) => spec_AreOps l A n c lo hi W hn (HR.out.new hb) hcap H)
 obtain ⟨Q, HQ⟩ : ∃ Q, Hid (mNeed l ext = Q) := ⟨_, Lib.hid rfl⟩
 rw [HQ.out]
 clear hr
 go_enter Tryz.func125, Tryz.ntmps125
 go_wp2_with fail
 refine (spec_zeros _).mono ?_
 rintro e w2 ⟨gv, cv, rfl, hgv, hv, hb⟩
 have HV2 := Lib.hid hv
 have HB2 := Lib.hid (below_trans ((Below.refl w.heap.size w).alloc (Nat.le_refl _) (.cells #[] 109)) hb (by simp))
 have hvl := hv.lt
 have hgv2 : w.heap.size + 1 ≤ gv := by simpa using hgv
 clear hv hb hgv
 go_wp2_with fail
 refine (spec_zeros _).mono ?_
 rintro e w3 ⟨gb, cb, rfl, hgb, hv, hb⟩
 have HV3 := Lib.hid (HV2.out.new hb)
 have HG3 := Lib.hid hv
 have HB3 := Lib.hid (below_trans HB2.out hb (Nat.le_refl _))
 have hgg : gv < gb := by omega
 have hwv : w.heap.size ≤ gv := by omega
 clear hv hb HB2 HV2
 have HO3 := Lib.hid (show OwnZ w3 (gb + 1) 109 3 (.slice (some ⟨w.heap.size, 0, none⟩) 0 0) (mNd ext (mMc [] (l.take 0)).s).length (cFlow (mNd ext (mMc [] (l.take 0)).s)) from .inr ⟨rfl, rfl, _, rfl⟩)
 go_wp2_with fail
 cases hA : mAreOps l with
 | false =>
  have hQ : Q = [] := by rw [← HQ.out]; unfold mNeed; rw [hA]; rfl
  subst hQ
  rw [hA] at CA
  have hn0 : 0 < n := by
   rcases Nat.eq_zero_or_pos n with h0 | h0
   ·
    have : l = [] := List.eq_nil_of_length_eq_zero (by rw [HL.out]; exact h0)
    subst this
    cases hA
   ·
    exact h0
  clear hA HO3
  go_loopg [5, 8] 0 (fun gg v i wr => v = .slice (some ⟨w.heap.size, 0, none⟩) 0 0 ∧ i = .int .i64 0 ∧ Hid (Below w.heap.size w wr))
  case atStart => exact ⟨rfl, rfl, HB3⟩
  case round =>
   obtain ⟨rfl, rfl, HB⟩ := hrel
   have hd : decide ((0 : Int) < (n : Int)) = true := by simp; omega
   go_wp2_with fail
   refine (CA.out _ HB.out).mono ?_
   rintro e w4 ⟨rfl, hb4⟩
   have HB4 := Lib.hid (below_trans HB.out hb4 (Nat.le_refl _))
   clear hb4
   go_wp2_with fail
   go_ret
   exact ⟨_, _, rfl, ⟨by simp, fun h => absurd h (by simp)⟩, HB4.out⟩
 | true =>
  have HO := Lib.hid (show l.all mOp = true by simp only [mAreOps, Bool.and_eq_true] at hA; exact hA.2)
  have HQm := Lib.hid (show mNd ext (mMc [] l).s = Q by rw [← HQ.out]; unfold mNeed; rw [hA]; rfl)
  have HQ144 := Lib.hid (mNeed_len l ext)
  rw [hA] at CA
  clear hA
  go_loopg [5, 8] n (fun gg v i wr => ∃ (k : Nat) (O : List TFlow), k ≤ n ∧ n - k ≤ gg ∧ i = .int .i64 k ∧ Hid (IRow wr gv cv (mMc [] (l.take k)).v) ∧ Hid (IRow wr gb cb (mMc [] (l.take k)).b) ∧ Hid (mNd ext (mMc [] (l.take k)).s = O) ∧ Hid (OwnZ wr (gb + 1) 109 3 v O.length (cFlow O)) ∧ Hid (Below w.heap.size w wr))
  case atStart => exact ⟨0, _, Nat.zero_le _, by omega, rfl, HV3, HG3, Lib.hid rfl, HO3, HB3⟩
  case round =>
   obtain ⟨k0, O0, hk0, hg0, rfl, HV, HG, HM, HOz, HB⟩ := hrel
   by_cases hlt : k0 < n
   ·
    obtain ⟨b, off, x, rfl, hlo, hhi2, hz, hc⟩ := rd_elem TOp.len (HR.out.new HB.out) HL.out hlt
    have hop : mOp x = true := List.all_eq_true.1 HO.out x (List.mem_of_getElem? hz)
    have HY := Lib.hid (mMc_take (vals := []) hz)
    have HXok := mMc_ok (vals := []) HO.out k0
    have HXs := mNd_len ext (mMc [] (l.take k0)).s
    have HXt := mSent_le (vals := []) (l.take k0)
    rw [List.length_take] at HXt
    rw [HM.out] at HXs
    have HO0 := Lib.hid (show O0.length ≤ 10000000 by omega)
    clear HXs HXt
    obtain ⟨Y, HT0⟩ : ∃ Y, Hid (mMc [] (l.take (k0 + 1)) = Y) := ⟨_, Lib.hid rfl⟩
    replace HY := Lib.hid (HT0.out.symm.trans HY.out)
    generalize mMc [] (l.take k0) = X at HV HG HY HXok HM
    have c0 : wr.cell? ⟨b, off + k0 * 4, none⟩ = some (.int .i64 x.f0) := hc 0 _ rfl
    have c1 : wr.cell? ⟨b, off + k0 * 4 + 1, none⟩ = some (.int .i64 x.f1) := hc 1 _ rfl
    have c2 : wr.cell? ⟨b, off + k0 * 4 + 2, none⟩ = some (.int .i64 x.f2) := hc 2 _ rfl
    have c3 : wr.cell? ⟨b, off + k0 * 4 + 3, none⟩ = some (.int .i64 x.f3) := hc 3 _ rfl
    have CS := Lib.hid (fun W (AV : Option Addr) (cV : Nat) (h1 : IRow W gv cv X.v) (h2 : IRow W gb cb X.b) => spec_step x [] AV 0 cV 0 0 gv cv gb cb X.v X.b W (by decide) (by simpa [i64s] using (Rd.empty (w := W) (lo := 0) (hi := 0) (size := 1) (A := AV))) (Nat.zero_le _) hop HXok.1 HXok.2 h1 h2 hgg)
    obtain ⟨hsl, hsd⟩ := sent_step (v := X.v) hop HXok.2
    have HYs := Lib.hid (show mNd ext Y.s = if (x.f0 == 5) = true then addS ext O0 (mSs x X.v X.b) else O0 by
     rw [HY.out]
     show mNd ext (X.s ++ mSd x X.v X.b) = _
     rw [hsd]
     split
     ·
      rw [mNd_snoc, HM.out]
     ·
      rw [List.append_nil, HM.out])
    generalize mSs x X.v X.b = s at CS hsl HYs
    obtain ⟨ok, hok⟩ : ∃ ok, Hid ((x.f0 == 5) = ok) := ⟨_, Lib.hid rfl⟩
    rw [hok.out] at CS HYs
    have hgl := HV.out.lt
    have hgl2 := HG.out.lt
    have hsw := HB.out.size
    clear hz hc hlo hhi2 hop HXok hsd hok
    go_wp2_with fail
    refine (CA.out _ HB.out).mono ?_
    rintro e wz ⟨rfl, hbz⟩
    have HVz := Lib.hid (HV.out.new hbz)
    have HGz := Lib.hid (HG.out.new hbz)
    have HOzz := Lib.hid (show OwnZ wz (gb + 1) 109 3 u5 O0.length (cFlow O0) from HOz.out.imp (fun h => own_newer h hbz) id)
    have HBz := Lib.hid (below_trans HB.out hbz (Nat.le_refl _))
    have d0 := cell_nw hbz c0
    have d1 := cell_nw hbz c1
    have d2 := cell_nw hbz c2
    have d3 := cell_nw hbz c3
    have hsz := hbz.size
    clear hbz c0 c1 c2 c3 HV HG HOz HB
    go_wp2_with fail
    refine (CS.out _ _ _ (HVz.out.alloc _) (HGz.out.alloc _)).mono ?_
    rintro e w4 ⟨rfl, hv, hg4, hc4⟩
    have HV4 := Lib.hid hv
    have HG4 := Lib.hid hg4
    have HB4 := Lib.hid ((HBz.out.alloc (by omega) _).trans (hc4.below (.inl hwv) (by simp; omega)))
    have HO4 := Lib.hid (show OwnZ w4 (gb + 1) 109 3 u5 O0.length (cFlow O0) from (HOzz.out.alloc (.cells #[] 3)).imp (fun h => own_chgN h hc4 (Nat.le_refl _)) id)
    have hs4 := hc4.size
    have KS := Lib.hid (box_new w4 207 #[.int .i64 s.f0, .int .i64 s.f1, .int .i64 s.f2])
    have CO := Lib.hid (fun W => spec_OwnersIn s.f2 W (lab_wf hsl))
    have HJ := Lib.hid (mOwn_len s.f2)
    have HAS := Lib.hid (show addS ext O0 s = (mOwn s.f2).foldl (addF ext s.f0) O0 from rfl)
    rw [HAS.out] at HYs
    replace HYs := Lib.hid HYs
    generalize mOwn s.f2 = J at CO HJ HYs
    clear hv hg4 hc4 CS HVz HGz HBz HOzz d0 d1 d2 d3 HAS
    have hs5 : (w4.alloc (.cells #[.int .i64 s.f0, .int .i64 s.f1, .int .i64 s.f2] 207)).heap.size = w4.heap.size + 1 := by simp
    have hs4b : gb < w4.heap.size := HG4.out.lt
    go_wp2_with fail
    refine (CO.out _).mono ?_
    rintro e wa ⟨AJ, cJ, rfl, hFJ, hba⟩
    have HBa := Lib.hid (below_trans ((Below.refl w4.heap.size w4).alloc (Nat.le_refl _) (.cells #[.int .i64 s.f0, .int .i64 s.f1, .int .i64 s.f2] 207)) hba (by simp))
    have HFJ := Lib.hid (hFJ.mono (show w4.heap.size ≤ _ by simp) (Nat.le_refl _))
    have HVa := Lib.hid (HV4.out.new HBa.out)
    have HGa := Lib.hid (HG4.out.new HBa.out)
    have HOa := Lib.hid (show OwnZ wa (gb + 1) 109 3 u5 O0.length (cFlow O0) from HO4.out.imp (fun h => own_newer h HBa.out) id)
    have HBwa := Lib.hid (below_trans HB4.out HBa.out (by omega))
    have KSa := Lib.hid (KS.out.new hba)
    have hsa := HBa.out.size
    have hgsl := KSa.out.lt
    clear hFJ hba KS HV4 HG4 HO4 HB4
    have HC0 := Lib.hid (chgT_new (q := wa.heap.size) (base := gb + 1) (E := 109) (Below.refl wa.heap.size wa))
    cases ok with
    | false =>
     have HE := Lib.hid (show mNd ext Y.s = O0 from HYs.out)
     go_wp2_with fail
     go_loopg [5, 12] 0 (fun gg v2 i wr2 => v2 = u5 ∧ i = .int .i64 0 ∧ wr2 = wa)
     case atStart => exact ⟨rfl, rfl, rfl⟩
     case round =>
      obtain ⟨rfl, rfl, rfl⟩ := hrel
      go_wp2_with fail
      all_goals (
       go_roundg (n - (k0 + 1))
       case measure => omega
       case rel => exact ⟨k0 + 1, O0, by omega, by omega, by go_num, by rw [HT0.out, HY.out]; exact HVa, by rw [HT0.out, HY.out]; exact HGa, by rw [HT0.out]; exact HE, HOa, HBwa⟩)
    | true =>
     have HYt := Lib.hid (show mNd ext Y.s = J.foldl (addF ext s.f0) O0 from HYs.out)
     clear HYs
     go_wp2_with fail
     go_loopg [5, 12] J.length (fun gg v2 i wr2 => ∃ (k : Nat) (O : List TFlow), k ≤ J.length ∧ J.length - k ≤ gg ∧ i = .int .i64 k ∧ Hid ((J.take k).foldl (addF ext s.f0) O0 = O) ∧ Hid (OwnZ wr2 (gb + 1) 109 3 v2 O.length (cFlow O)) ∧ Hid (ChgT wa.heap.size (gb + 1) 109 wa wr2))
     case atStart => exact ⟨0, O0, Nat.zero_le _, by omega, rfl, Lib.hid rfl, HOa, HC0⟩
     case round =>
      obtain ⟨k, O, hk, hg, rfl, HT2o, HO2, HC⟩ := hrel
      rename World => wr2
      have hJ9 : J.length ≤ 9 := HJ.out
      have hsr := HC.out.size
      by_cases hlt2 : k < J.length
      ·
       obtain ⟨bj, offj, xk, hAj, hloj, hhij, hzj, hcj⟩ := rd_int (fr_T HFJ.out HC.out (by decide) (.inr (Nat.le_refl _))).rd hlt2
       subst hAj
       have HT := Lib.hid (fold_take (f := addF ext s.f0) hzj O0)
       have HLo := Lib.hid (show O.length ≤ 10000009 by have h1 := addF_folds ext s.f0 (J.take k) O0; rw [List.length_take] at h1; rw [← HT2o.out]; have := HO0.out; omega)
       obtain ⟨O2, HT2⟩ : ∃ O2, Hid ((J.take (k + 1)).foldl (addF ext s.f0) O0 = O2) := ⟨_, Lib.hid rfl⟩
       replace HT := Lib.hid (HT2.out.symm.trans HT.out)
       rw [HT2o.out] at HT
       replace HT := Lib.hid HT.out
       have cx : wr2.cell? ⟨bj, offj + k, none⟩ = some (.int .i64 xk) := hcj
       have KS := Lib.hid (HC.out.box KSa.out (by omega) (by decide))
       obtain ⟨Ao, co, hvv, hR0⟩ := rd_of_holdv HO2.out
       subst hvv
       have HR0 := Lib.hid hR0
       have hki2 : (k : Int) < (J.length : Int) := by omega
       clear hR0 hzj hcj hloj hhij
       have hd2 : decide ((k : Int) < (J.length : Int)) = true := by simp; omega
       by_cases hne : xk = s.f0
       ·
        have gn : (xk != s.f0) = false := by simp [hne]
        clear hne
        go_wp2_with fail
        refine wp_region_held_drew (S := fun w' => BoxAt w' w4.heap.size 207 #[.int .i64 s.f0, .int .i64 s.f1, .int .i64 s.f2] ∧ Below wr2.heap.size wr2 w') (by kernel_rfl) ?_ (fun hHeld => ?_)
        ·
         exact ⟨KS.out.drw, (Below.refl _ _).drew⟩
        generalize (World.drew _) = x0 at hHeld ⊢
        refine tz 0 50 hHeld ?_; try simp only [ptl]
        refine tz 1 51 hHeld ?_; try simp only [ptl]
        refine tz 2 52 hHeld ?_; try simp only [ptl]
        refine tz 3 53 hHeld ?_; try simp only [ptl]
        refine tl 4 54 hHeld rfl ?_ (by intro W hS; obtain ⟨c0_0, c0_1, c0_2⟩ := (hS.1).p3; have cx' := cell_nw hS.2 cx; clear hS; go_simp; try with_reducible rfl); try simp only [ptl]
        refine tz 5 55 hHeld ?_; try simp only [ptl]
        refine tl 6 56 hHeld rfl ?_ (by intro W hS; obtain ⟨c0_0, c0_1, c0_2⟩ := (hS.1).p3; have cx' := cell_nw hS.2 cx; clear hS; go_simp; try with_reducible rfl); try simp only [ptl]
        refine tz 7 57 hHeld ?_; try simp only [ptl]
        refine rd1 (i := 8) (o := ⟨some 13, _, _, _, _, _⟩) rfl (fun K hK => ?_)
        go_simp
        have Gf := box_new (x0) 109 #[.int .i64 0, .int .i64 0, .int .i64 0]
        have hb1 := (Below.refl (x0).heap.size (x0)).alloc (Nat.le_refl _) (.cells #[.int .i64 0, .int .i64 0, .int .i64 0] 109)
        have Lf : wr2.heap.size ≤ (x0).heap.size := by have := (hHeld.1).lt; have := (hHeld.2).size; omega
        have M0f : w4.heap.size < (x0).heap.size := (hHeld.1).lt
        generalize (x0).alloc (.cells #[.int .i64 0, .int .i64 0, .int .i64 0] 109) = x1 at hb1 Gf  ⊢
        generalize hg : (x0).heap.size = gf at Gf Lf M0f ⊢
        clear hg
        refine hK.out _ _ ⟨hHeld.1.new hb1, below_trans hHeld.2 hb1 (Nat.le_refl _)⟩ (fun hHeld' => ?_)
        clear hK K hHeld hb1; have hHeld := hHeld'; clear hHeld'
        try simp only [ptl]
        refine rd1 (i := 9) (o := ⟨none, _, _, _, _, _⟩) rfl (fun K hK => ?_)
        rw [if_pos (by rfl)]
        refine wp_store_row 109 _ _ rfl gf #[.int .i64 ext, .int .i64 xk, .int .i64 s.f0] rfl rfl 109 _ Gf (by kernel_rfl) (by kernel_rfl) (by kernel_rfl) ?_
        replace Gf := box_row (cs := #[.int .i64 ext, .int .i64 xk, .int .i64 s.f0]) Gf
        have hc1 := chg_row x1 gf #[.int .i64 ext, .int .i64 xk, .int .i64 s.f0]
        have hHeld2 : BoxAt (World.setRow x1 gf #[.int .i64 ext, .int .i64 xk, .int .i64 s.f0]) w4.heap.size 207 #[.int .i64 s.f0, .int .i64 s.f1, .int .i64 s.f2] ∧ Below wr2.heap.size wr2 (World.setRow x1 gf #[.int .i64 ext, .int .i64 xk, .int .i64 s.f0]) := ⟨hHeld.1.chg hc1 (by omega), below_setRow hHeld.2 (by omega) _⟩
        clear hc1
        generalize World.setRow x1 gf #[.int .i64 ext, .int .i64 xk, .int .i64 s.f0] = x2 at hHeld2 Gf ⊢
        refine hK.out _ _ hHeld2 (fun hHeld' => ?_)
        clear hHeld2
        clear hK K hHeld; have hHeld := hHeld'; clear hHeld'
        try simp only [ptl]
        refine wpAnyH_done (by kernel_rfl) ?_ _
        have KSf := Lib.hid hHeld.1
        have KFf := Lib.hid Gf
        have hbf := hHeld.2
        have HOf := Lib.hid (show OwnZ _ (gb + 1) 109 3 (.slice Ao O.length co) O.length (cFlow O) from HO2.out.imp (fun h => own_newer h hbf) id)
        have HCf := Lib.hid (chgT_trans HC.out hbf)
        have cxf := cell_nw hbf cx
        have hsf := hbf.size
        have HRf := Lib.hid (HR0.out.new hbf)
        have hgfl := Gf.lt
        clear hHeld Gf hbf cx KS HO2 HC
        rename World => wf
        go_wp2_with fail
        refine wp_region_held_drew (S := fun w' => BoxAt w' w4.heap.size 207 #[.int .i64 s.f0, .int .i64 s.f1, .int .i64 s.f2] ∧ BoxAt w' gf 109 #[.int .i64 ext, .int .i64 xk, .int .i64 s.f0] ∧ Below wf.heap.size wf w') (by kernel_rfl) ?_ (fun hHeld => ?_)
        ·
         exact ⟨KSf.out.drw, KFf.out.drw, (Below.refl _ _).drew⟩
        generalize (World.drew _) = x0 at hHeld ⊢
        refine tz 0 58 hHeld ?_; try simp only [ptl]
        refine tz 1 59 hHeld ?_; try simp only [ptl]
        refine tz 2 60 hHeld ?_; try simp only [ptl]
        refine tl 3 61 hHeld rfl ?_ (by intro W hS; obtain ⟨c0_0, c0_1, c0_2⟩ := (hS.1).p3; obtain ⟨c1_0, c1_1, c1_2⟩ := (hS.2.1).p3; have cx' := cell_nw hS.2.2 cxf; clear hS; go_simp; try with_reducible rfl); try simp only [ptl]
        refine tz 4 62 hHeld ?_; try simp only [ptl]
        refine tl 5 63 hHeld rfl ?_ (by intro W hS; obtain ⟨c0_0, c0_1, c0_2⟩ := (hS.1).p3; obtain ⟨c1_0, c1_1, c1_2⟩ := (hS.2.1).p3; have cx' := cell_nw hS.2.2 cxf; clear hS; go_simp; try with_reducible rfl); try simp only [ptl]
        refine tz 6 64 hHeld ?_; try simp only [ptl]
        refine tz 7 65 hHeld ?_; try simp only [ptl]
        refine tu (i := 8) (oi := ⟨some 66, _, _, _, _, _⟩) rfl hHeld ?_; try simp only [ptl]
        refine tu (i := 9) (oi := ⟨some 67, _, _, _, _, _⟩) rfl hHeld ?_; try simp only [ptl]
        refine tu (i := 10) (oi := ⟨some 68, _, _, _, _, _⟩) rfl hHeld ?_; try simp only [ptl]
        refine tu (i := 11) (oi := ⟨some 69, _, _, _, _, _⟩) rfl hHeld ?_; try simp only [ptl]
        refine tz 12 70 hHeld ?_; try simp only [ptl]
        refine wpAnyH_done (by kernel_rfl) ?_ _
        have hbz := hHeld.2.2
        have HOz := Lib.hid (show OwnZ _ (gb + 1) 109 3 (.slice Ao O.length co) O.length (cFlow O) from HOf.out.imp (fun h => own_newer h hbz) id)
        have HCz := Lib.hid (chgT_trans HCf.out hbz)
        have hsz := hbz.size
        have HE := Lib.hid (show O2 = O by rw [HT.out, addF_no gn])
        clear hHeld hbz cxf
        go_wp2_with fail
        go_roundg (J.length - (k + 1))
        case measure => omega
        case rel => exact ⟨k + 1, O, by omega, by omega, by go_num, Lib.hid (by rw [HT2.out]; exact HE.out), HOz, HCz⟩
       ·
        have gn : (xk != s.f0) = true := by simp [hne]
        clear hne
        go_wp2_with fail
        refine wp_region_held_drew (S := fun w' => BoxAt w' w4.heap.size 207 #[.int .i64 s.f0, .int .i64 s.f1, .int .i64 s.f2] ∧ Below wr2.heap.size wr2 w') (by kernel_rfl) ?_ (fun hHeld => ?_)
        ·
         exact ⟨KS.out.drw, (Below.refl _ _).drew⟩
        generalize (World.drew _) = x0 at hHeld ⊢
        refine tz 0 50 hHeld ?_; try simp only [ptl]
        refine tz 1 51 hHeld ?_; try simp only [ptl]
        refine tz 2 52 hHeld ?_; try simp only [ptl]
        refine tz 3 53 hHeld ?_; try simp only [ptl]
        refine tl 4 54 hHeld rfl ?_ (by intro W hS; obtain ⟨c0_0, c0_1, c0_2⟩ := (hS.1).p3; have cx' := cell_nw hS.2 cx; clear hS; go_simp; try with_reducible rfl); try simp only [ptl]
        refine tz 5 55 hHeld ?_; try simp only [ptl]
        refine tl 6 56 hHeld rfl ?_ (by intro W hS; obtain ⟨c0_0, c0_1, c0_2⟩ := (hS.1).p3; have cx' := cell_nw hS.2 cx; clear hS; go_simp; try with_reducible rfl); try simp only [ptl]
        refine tz 7 57 hHeld ?_; try simp only [ptl]
        refine rd1 (i := 8) (o := ⟨some 13, _, _, _, _, _⟩) rfl (fun K hK => ?_)
        go_simp
        have Gf := box_new (x0) 109 #[.int .i64 0, .int .i64 0, .int .i64 0]
        have hb1 := (Below.refl (x0).heap.size (x0)).alloc (Nat.le_refl _) (.cells #[.int .i64 0, .int .i64 0, .int .i64 0] 109)
        have Lf : wr2.heap.size ≤ (x0).heap.size := by have := (hHeld.1).lt; have := (hHeld.2).size; omega
        have M0f : w4.heap.size < (x0).heap.size := (hHeld.1).lt
        generalize (x0).alloc (.cells #[.int .i64 0, .int .i64 0, .int .i64 0] 109) = x1 at hb1 Gf  ⊢
        generalize hg : (x0).heap.size = gf at Gf Lf M0f ⊢
        clear hg
        refine hK.out _ _ ⟨hHeld.1.new hb1, below_trans hHeld.2 hb1 (Nat.le_refl _)⟩ (fun hHeld' => ?_)
        clear hK K hHeld hb1; have hHeld := hHeld'; clear hHeld'
        try simp only [ptl]
        refine rd1 (i := 9) (o := ⟨none, _, _, _, _, _⟩) rfl (fun K hK => ?_)
        rw [if_pos (by rfl)]
        refine wp_store_row 109 _ _ rfl gf #[.int .i64 ext, .int .i64 xk, .int .i64 s.f0] rfl rfl 109 _ Gf (by kernel_rfl) (by kernel_rfl) (by kernel_rfl) ?_
        replace Gf := box_row (cs := #[.int .i64 ext, .int .i64 xk, .int .i64 s.f0]) Gf
        have hc1 := chg_row x1 gf #[.int .i64 ext, .int .i64 xk, .int .i64 s.f0]
        have hHeld2 : BoxAt (World.setRow x1 gf #[.int .i64 ext, .int .i64 xk, .int .i64 s.f0]) w4.heap.size 207 #[.int .i64 s.f0, .int .i64 s.f1, .int .i64 s.f2] ∧ Below wr2.heap.size wr2 (World.setRow x1 gf #[.int .i64 ext, .int .i64 xk, .int .i64 s.f0]) := ⟨hHeld.1.chg hc1 (by omega), below_setRow hHeld.2 (by omega) _⟩
        clear hc1
        generalize World.setRow x1 gf #[.int .i64 ext, .int .i64 xk, .int .i64 s.f0] = x2 at hHeld2 Gf ⊢
        refine hK.out _ _ hHeld2 (fun hHeld' => ?_)
        clear hHeld2
        clear hK K hHeld; have hHeld := hHeld'; clear hHeld'
        try simp only [ptl]
        refine wpAnyH_done (by kernel_rfl) ?_ _
        have KSf := Lib.hid hHeld.1
        have KFf := Lib.hid Gf
        have hbf := hHeld.2
        have HOf := Lib.hid (show OwnZ _ (gb + 1) 109 3 (.slice Ao O.length co) O.length (cFlow O) from HO2.out.imp (fun h => own_newer h hbf) id)
        have HCf := Lib.hid (chgT_trans HC.out hbf)
        have cxf := cell_nw hbf cx
        have hsf := hbf.size
        have HRf := Lib.hid (HR0.out.new hbf)
        have hgfl := Gf.lt
        clear hHeld Gf hbf cx KS HO2 HC
        rename World => wf
        have CH := Lib.hid (fun (W : World) (hW : Below wf.heap.size wf W) => spec_has ⟨ext, xk, s.f0⟩ O Ao O.length co (gb + 1) wr2.heap.size W (by have := HLo.out; omega) (HRf.out.new hW))
        obtain ⟨hs, HHs⟩ : ∃ hs, Hid ((O.any fun y => decide ((⟨ext, xk, s.f0⟩ : TFlow) = y)) = hs) := ⟨_, Lib.hid rfl⟩
        rw [HHs.out] at CH
        go_wp2_with fail
        refine wp_region_held_drew (S := fun w' => BoxAt w' w4.heap.size 207 #[.int .i64 s.f0, .int .i64 s.f1, .int .i64 s.f2] ∧ BoxAt w' gf 109 #[.int .i64 ext, .int .i64 xk, .int .i64 s.f0] ∧ Below wf.heap.size wf w') (by kernel_rfl) ?_ (fun hHeld => ?_)
        ·
         exact ⟨KSf.out.drw, KFf.out.drw, (Below.refl _ _).drew⟩
        generalize (World.drew _) = x0 at hHeld ⊢
        refine tz 0 58 hHeld ?_; try simp only [ptl]
        refine tz 1 59 hHeld ?_; try simp only [ptl]
        refine tz 2 60 hHeld ?_; try simp only [ptl]
        refine tl 3 61 hHeld rfl ?_ (by intro W hS; obtain ⟨c0_0, c0_1, c0_2⟩ := (hS.1).p3; obtain ⟨c1_0, c1_1, c1_2⟩ := (hS.2.1).p3; have cx' := cell_nw hS.2.2 cxf; clear hS; go_simp; try with_reducible rfl); try simp only [ptl]
        refine tz 4 62 hHeld ?_; try simp only [ptl]
        refine tl 5 63 hHeld rfl ?_ (by intro W hS; obtain ⟨c0_0, c0_1, c0_2⟩ := (hS.1).p3; obtain ⟨c1_0, c1_1, c1_2⟩ := (hS.2.1).p3; have cx' := cell_nw hS.2.2 cxf; clear hS; go_simp; try with_reducible rfl); try simp only [ptl]
        refine tz 6 64 hHeld ?_; try simp only [ptl]
        refine tz 7 65 hHeld ?_; try simp only [ptl]
        refine tz 8 66 hHeld ?_; try simp only [ptl]
        refine tl 9 67 hHeld rfl ?_ (by intro W hS; obtain ⟨c0_0, c0_1, c0_2⟩ := (hS.1).p3; obtain ⟨c1_0, c1_1, c1_2⟩ := (hS.2.1).p3; have cx' := cell_nw hS.2.2 cxf; clear hS; go_simp; try with_reducible rfl); try simp only [ptl]
        refine rd1 (i := 10) (o := ⟨some 68, _, _, _, _, _⟩) rfl (fun K hK => ?_)
        go_simp
        refine Calls.mono (CH.out _ hHeld.2.2) ?_
        rintro e x1 ⟨rfl, hb1⟩
        refine hK.out _ _ ⟨hHeld.1.new hb1, hHeld.2.1.new hb1, below_trans hHeld.2.2 hb1 (Nat.le_refl _)⟩ (fun hHeld' => ?_)
        clear hK K hHeld hb1; have hHeld := hHeld'; clear hHeld'
        try simp only [ptl]
        cases hs
        ·
         refine tz 11 69 hHeld ?_; try simp only [ptl]
         refine tz 12 70 hHeld ?_; try simp only [ptl]
         refine wpAnyH_done (by kernel_rfl) ?_ _
         have hbz := hHeld.2.2
         have HOz := Lib.hid (show OwnZ _ (gb + 1) 109 3 (.slice Ao O.length co) O.length (cFlow O) from HOf.out.imp (fun h => own_newer h hbz) id)
         have HCz := Lib.hid (chgT_trans HCf.out hbz)
         have hsz := hbz.size
         have HE := Lib.hid (show O2 = O ++ [⟨ext, xk, s.f0⟩] by rw [HT.out, addF_new gn HHs.out])
         have f0 := hHeld.2.1.at_ (j := 0) (u := .int .i64 ext) rfl
         have f1 := hHeld.2.1.at_ (j := 1) (u := .int .i64 xk) rfl
         have f2 := hHeld.2.1.at_ (j := 2) (u := .int .i64 s.f0) rfl
         clear hHeld hbz cxf
         go_wp2_with (at_builtin; refine wp_appz_litT rfl _ _ _ rfl (gb + 1) 109 (.agg #[.int .i64 0, .int .i64 0, .int .i64 0]) 3 24 Tryz.underlying31 info_flow rfl (by decide) _ _ _ rfl HOz.out #[.int .i64 ext, .int .i64 xk, .int .i64 s.f0] 1 1 _ rfl (by simp) rfl (one_flow _ _ _) (by have := HLo.out; unfold maxLen; omega) (by have := HLo.out; omega) (by omega) ?_; intro v1 w3 ho1 hb1 hct; have HO3 := Lib.hid (show OwnZ w3 (gb + 1) 109 3 v1 (O ++ [(⟨ext, xk, s.f0⟩ : TFlow)]).length (cFlow (O ++ [⟨ext, xk, s.f0⟩])) from (by rw [cFlow_snoc]; simpa [TFlow.cells] using ho1)); have HC3 := Lib.hid (hct wa.heap.size); clear ho1 hb1 hct f0 f1 f2)
         go_wp2_with fail
         go_roundg (J.length - (k + 1))
         case measure => omega
         case rel => exact ⟨k + 1, O ++ [⟨ext, xk, s.f0⟩], by omega, by omega, by go_num, Lib.hid (by rw [HT2.out]; exact HE.out), HO3, Lib.hid (HCz.out.trans HC3.out)⟩
        ·
         refine tz 11 69 hHeld ?_; try simp only [ptl]
         refine tz 12 70 hHeld ?_; try simp only [ptl]
         refine wpAnyH_done (by kernel_rfl) ?_ _
         have hbz := hHeld.2.2
         have HOz := Lib.hid (show OwnZ _ (gb + 1) 109 3 (.slice Ao O.length co) O.length (cFlow O) from HOf.out.imp (fun h => own_newer h hbz) id)
         have HCz := Lib.hid (chgT_trans HCf.out hbz)
         have hsz := hbz.size
         have HE := Lib.hid (show O2 = O by rw [HT.out, addF_has HHs.out])
         clear hHeld hbz cxf
         go_wp2_with fail
         go_roundg (J.length - (k + 1))
         case measure => omega
         case rel => exact ⟨k + 1, O, by omega, by omega, by go_num, Lib.hid (by rw [HT2.out]; exact HE.out), HOz, HCz⟩
      ·
       obtain rfl : k = J.length := by omega
       rw [List.take_of_length_le (Nat.le_refl _)] at HT2o
       have HEo := Lib.hid (show mNd ext Y.s = O by rw [HYt.out, HT2o.out])
       have HVr := Lib.hid (irow_T HVa.out HC.out (by omega) (by omega))
       have HGr := Lib.hid (irow_T HGa.out HC.out (by omega) (by omega))
       have HBr := Lib.hid (HBwa.out.trans (HC.out.below (by omega) (by omega) (by omega)))
       go_wp2_with fail
       go_roundg (n - (k0 + 1))
       case measure => omega
       case rel => exact ⟨k0 + 1, O, by omega, by omega, by go_num, by rw [HT0.out, HY.out]; exact HVr, by rw [HT0.out, HY.out]; exact HGr, by rw [HT0.out]; exact HEo, HO2, HBr⟩
   ·
    obtain rfl : k0 = n := by omega
    have hh : l.take k0 = l := List.take_of_length_le (by rw [HL.out]; omega)
    rw [hh] at HM
    have HQo := Lib.hid (HQm.out.symm.trans HM.out)
    obtain ⟨A2, c2, rfl, hF⟩ := fr_of_ownz HOz.out
    have hgl2 := HG.out.lt
    have HF := Lib.hid (hF.mono (show w.heap.size ≤ gb + 1 by omega) (Nat.le_refl _))
    clear hh HV HG HM HOz hF
    have hd : decide ((k0 : Int) < (k0 : Int)) = false := by simp
    go_wp2_with fail
    go_ret
    exact ⟨_, _, by rw [HQo.out]; rfl, by rw [HQo.out]; exact HF.out, HB.out⟩
end Go.Proofs.YtkedacmpmancbaaGreatDoor
namespace Go.Proofs.YtkedacmpmancbaaGreatDoor
open Go Go.ChangeShapes Go.WideShapes Go.ChangeAt Go.RowKit Go.Lib
set_option linter.unusedVariables false
set_option linter.unusedSimpArgs false
set_option maxRecDepth 100000

def mTight (l : List TOp) (f : List TFlow) (ext : Int) : Bool := mAreOps l && (mNeed l ext).all (pFW f)
theorem flow_fit {f : TFlow} (h0 : (Lit.int .i64 f.f0).wf = true) (h1 : 1 ≤ f.f1 ∧ f.f1 ≤ 9) (h2 : 1 ≤ f.f2 ∧ f.f2 ≤ 9) : TFlow.fit f := ⟨bounds_i64 h0, by omega, by omega⟩
theorem sent_to {vals : List Int} {l : List TOp} (h : l.all mOp = true) : ∀ s ∈ (mMc vals l).s, 1 ≤ s.f0 ∧ s.f0 ≤ 9 := by
 have : ∀ (l : List TOp) (x : MMc), (∀ s ∈ x.s, 1 ≤ s.f0 ∧ s.f0 ≤ 9) → l.all mOp = true → ∀ s ∈ (l.foldl (mStep vals) x).s, 1 ≤ s.f0 ∧ s.f0 ≤ 9 := by
  intro l
  induction l with
  | nil => intro x hx _; exact hx
  | cons o l ih =>
   intro x hx hl
   rw [List.all_cons, Bool.and_eq_true] at hl
   refine ih _ ?_ hl.2
   intro s hs
   simp only [mStep, List.mem_append] at hs
   rcases hs with hs | hs
   ·
    exact hx s hs
   ·
    unfold mSd at hs
    split at hs
    ·
     rename_i h5
     simp only [List.mem_singleton] at hs
     subst hs
     exact (mOp_12 hl.1 (.inr h5)).2
    ·
     cases hs
 exact this l mMc0 (fun s hs => by cases hs) h
theorem need_fit (l : List TOp) {ext : Int} (we : (Lit.int .i64 ext).wf = true) : cFlowOk (mNeed l ext) := by
 unfold mNeed
 split
 ·
  rename_i hA
  simp only [mAreOps, Bool.and_eq_true] at hA
  have hto := sent_to (vals := []) hA.2
  have inner : ∀ (J : List Int) (t0 : Int) (out : List TFlow), (1 ≤ t0 ∧ t0 ≤ 9) → (∀ z ∈ J, 1 ≤ z ∧ z ≤ 9) → cFlowOk out → cFlowOk (J.foldl (addF ext t0) out) := by
   intro J
   induction J with
   | nil => intro t0 out _ _ h; exact h
   | cons z J ih =>
    intro t0 out ht hJ h
    refine ih t0 _ ht (fun y hy => hJ y (List.mem_cons_of_mem _ hy)) ?_
    unfold addF
    split
    ·
     intro f hf
     rcases List.mem_append.1 hf with hf | hf
     ·
      exact h f hf
     ·
      simp only [List.mem_singleton] at hf
      subst hf
      exact flow_fit we (hJ z (List.mem_cons_self ..)) ht
    ·
     exact h
  have outer : ∀ (s : List TSent) (out : List TFlow), (∀ e ∈ s, 1 ≤ e.f0 ∧ e.f0 ≤ 9) → cFlowOk out → cFlowOk (s.foldl (addS ext) out) := by
   intro s
   induction s with
   | nil => intro out _ h; exact h
   | cons e s ih =>
    intro out hs h
    exact ih _ (fun y hy => hs y (List.mem_cons_of_mem _ hy)) (inner _ _ _ (hs e (List.mem_cons_self ..)) (fun z hz => mOwn_in hz) h)
  exact outer _ _ hto (fun f hf => by cases hf)
 ·
  intro f hf; cases hf
set_option maxHeartbeats 8000000 in
theorem impl_IsTightForC (l : List TOp) (A : Option Addr) (n c lo hi : Nat) (f : List TFlow) (A1 : Option Addr) (n1 c1 lo1 hi1 : Nat) (ext : Int) (w : World) (hn : n ≤ 1048576) (hr : Rd w lo hi 4 A n (cOp l)) (hcap : n ≤ c) (H : Hid (cOpOk l)) (hn1 : n1 ≤ 1048576) (hr1 : Rd w lo1 hi1 3 A1 n1 (cFlow f)) (hcap1 : n1 ≤ c1) (H1 : Hid (cFlowOk f)) (we : (Lit.int .i64 ext).wf = true) :
  Calls Tryz.prog 152 #[.slice A n c, .slice A1 n1 c1, .int .i64 ext] w (Says (.bool (mTight l f ext)) w) := by
 have CA := Lib.hid (fun W (hb : Below w.heap.size w W) => impl_AreOpsC l A n c lo hi W hn (hr.new hb) hcap H)
 have CN := Lib.hid (fun W (hb : Below w.heap.size w W) => impl_NeedsFlowsC l A n c lo hi ext W hn (hr.new hb) hcap H we)
 have HN := Lib.hid (need_fit l we)
 have H144 := Lib.hid (mNeed_len l ext)
 have CW := Lib.hid (fun W (hb : Below w.heap.size w W) (AN : Option Addr) (cN loN hiN : Nat) (h : Rd W loN hiN 3 AN (mNeed l ext).length (cFlow (mNeed l ext))) (hc : (mNeed l ext).length ≤ cN) => impl_FlowsWithinC (mNeed l ext) AN (mNeed l ext).length cN loN hiN f A1 n1 c1 lo1 hi1 W (by have := H144.out; omega) h hc HN hn1 (hr1.new hb) hcap1 H1)
 obtain ⟨T, HT⟩ : ∃ T, Hid (mTight l f ext = T) := ⟨_, Lib.hid rfl⟩
 rw [HT.out]
 cases hA : mAreOps l with
 | false =>
  rw [hA] at CA
  obtain rfl : T = false := by rw [← HT.out]; unfold mTight; rw [hA]; rfl
  clear hr hr1 CN CW hA
  go_enter Tryz.func152, Tryz.ntmps152
  go_wp2_with fail
  refine (CA.out _ (Below.refl _ _)).mono ?_
  rintro e w1 ⟨rfl, hb1⟩
  have HB := Lib.hid hb1
  clear hb1
  go_wp2_with fail
  go_ret
  exact ⟨rfl, HB.out⟩
 | true =>
  rw [hA] at CA
  have HT2 := Lib.hid (show T = (mNeed l ext).all (pFW f) by rw [← HT.out]; unfold mTight; rw [hA]; rfl)
  generalize mNeed l ext = J at CN CW HT2
  generalize J.all (pFW f) = r at CW HT2
  clear hr hr1 hA HN H144
  go_enter Tryz.func152, Tryz.ntmps152
  go_wp2_with fail
  refine (CA.out _ (Below.refl _ _)).mono ?_
  rintro e w1 ⟨rfl, hb1⟩
  have HB := Lib.hid hb1
  clear hb1
  go_wp2_with fail
  refine (CN.out _ HB.out).mono ?_
  rintro e w2 ⟨AN, cN, rfl, hF, hb2⟩
  have HB2 := Lib.hid (below_trans HB.out hb2 (Nat.le_refl _))
  have HF := Lib.hid hF
  clear hb2 hF
  go_wp2_with fail
  refine (CW.out _ HB2.out _ _ _ _ HF.out.rd HF.out.cap).mono ?_
  rintro e w3 ⟨rfl, hb3⟩
  have HB3 := Lib.hid (below_trans HB2.out hb3 (Nat.le_refl _))
  clear hb3
  go_wp2_with fail
  go_ret
  exact ⟨by rw [HT2.out]; rfl, HB3.out⟩
set_option maxHeartbeats 8000000 in
theorem spec_IsTightFor (l : List TOp) (A : Option Addr) (n c lo hi : Nat) (f : List TFlow) (A1 : Option Addr) (n1 c1 lo1 hi1 : Nat) (ext : Int) (w : World) (hn : n ≤ 1048576) (hr : Rd w lo hi 4 A n (cOp l)) (hcap : n ≤ c) (H : Hid (cOpOk l)) (hn1 : n1 ≤ 1048576) (hr1 : Rd w lo1 hi1 3 A1 n1 (cFlow f)) (hcap1 : n1 ≤ c1) (H1 : Hid (cFlowOk f)) (we : (Lit.int .i64 ext).wf = true) :
  Calls Tryz.prog 79 #[.slice A n c, .slice A1 n1 c1, .int .i64 ext] w (Says (.bool (mTight l f ext)) w) := by
 have CA := Lib.hid (fun W (hb : Below w.heap.size w W) => spec_AreOps l A n c lo hi W hn (hr.new hb) hcap H)
 have CN := Lib.hid (fun W (hb : Below w.heap.size w W) => spec_NeedsFlows l A n c lo hi ext W hn (hr.new hb) hcap H we)
 have HN := Lib.hid (need_fit l we)
 have H144 := Lib.hid (mNeed_len l ext)
 have CW := Lib.hid (fun W (hb : Below w.heap.size w W) (AN : Option Addr) (cN loN hiN : Nat) (h : Rd W loN hiN 3 AN (mNeed l ext).length (cFlow (mNeed l ext))) (hc : (mNeed l ext).length ≤ cN) => spec_FlowsWithin (mNeed l ext) AN (mNeed l ext).length cN loN hiN f A1 n1 c1 lo1 hi1 W (by have := H144.out; omega) h hc HN hn1 (hr1.new hb) hcap1 H1)
 obtain ⟨T, HT⟩ : ∃ T, Hid (mTight l f ext = T) := ⟨_, Lib.hid rfl⟩
 rw [HT.out]
 cases hA : mAreOps l with
 | false =>
  rw [hA] at CA
  obtain rfl : T = false := by rw [← HT.out]; unfold mTight; rw [hA]; rfl
  clear hr hr1 CN CW hA
  go_enter Tryz.func79, Tryz.ntmps79
  go_wp2_with fail
  refine (CA.out _ (Below.refl _ _)).mono ?_
  rintro e w1 ⟨rfl, hb1⟩
  have HB := Lib.hid hb1
  clear hb1
  go_wp2_with fail
  go_ret
  exact ⟨rfl, HB.out⟩
 | true =>
  rw [hA] at CA
  have HT2 := Lib.hid (show T = (mNeed l ext).all (pFW f) by rw [← HT.out]; unfold mTight; rw [hA]; rfl)
  generalize mNeed l ext = J at CN CW HT2
  generalize J.all (pFW f) = r at CW HT2
  clear hr hr1 hA HN H144
  go_enter Tryz.func79, Tryz.ntmps79
  go_wp2_with fail
  refine (CA.out _ (Below.refl _ _)).mono ?_
  rintro e w1 ⟨rfl, hb1⟩
  have HB := Lib.hid hb1
  clear hb1
  go_wp2_with fail
  refine (CN.out _ HB.out).mono ?_
  rintro e w2 ⟨AN, cN, rfl, hF, hb2⟩
  have HB2 := Lib.hid (below_trans HB.out hb2 (Nat.le_refl _))
  have HF := Lib.hid hF
  clear hb2 hF
  go_wp2_with fail
  refine (CW.out _ HB2.out _ _ _ _ HF.out.rd HF.out.cap).mono ?_
  rintro e w3 ⟨rfl, hb3⟩
  have HB3 := Lib.hid (below_trans HB2.out hb3 (Nat.le_refl _))
  clear hb3
  go_wp2_with fail
  go_ret
  exact ⟨by rw [HT2.out]; rfl, HB3.out⟩
end Go.Proofs.YtkedacmpmancbaaGreatDoor
