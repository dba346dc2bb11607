/- SealLetter, of the program and of the model. -/
import Derived.Test.YtlnmgfbfpjfddaaDoorRgn
import Derived.Test.YtlnmgfbfpjfddaaDoorTLetter
import Derived.Test.YtlnmgfbfpjfddaaDoorValid
import Derived.Test.YtlnmgfbfpjfddaaDoorKHash
import Derived.Test.YtlnmgfbfpjfddaaDoorReg
import Derived.Test.YtlnmgfbfpjfddaaDoorCell
import Derived.Deep.RegionHeld3
namespace Go.Proofs.YtlnmgfbfpjfddaaDoor
open Go Go.ChangeShapes Go.WideShapes Go.ChangeAt Go.RowKit Go.Lib
set_option linter.unusedVariables false
set_option linter.unusedSimpArgs false
set_option maxRecDepth 100000
abbrev vLetter (x : TLetter) : Value := .agg #[.int .i64 x.f0, .int .i64 x.f1, .int .i64 x.f2, .int .i64 x.f3]
def mSealOf (k : Int) (x : TLetter) : Int := if mValid k = true then mKHash k [x.f0, x.f1, x.f2] else 0
def mSeal (k : Int) (x : TLetter) : TLetter := ⟨x.f0, x.f1, x.f2, mSealOf k x⟩
theorem rd_boxi {w : World} {g : Nat} {t : TypeId} {cs : Array Value} (h : BoxAt w g t cs) : Rd w g (g + 1) 1 (some ⟨g, 0, none⟩) cs.size cs.toList :=
 ⟨by simp, fun _ => ⟨g, 0, rfl, Nat.le_refl _, Nat.lt_succ_self _, fun j u hu => by rw [Nat.zero_add]; exact h.at_ (by simpa using hu)⟩⟩
theorem letter_i64 {x : TLetter} (h : TLetter.fit x) : Hid (I64s [x.f0, x.f1, x.f2]) := by
 obtain ⟨h0, h1, h2, h3⟩ := h
 refine Lib.hid fun z hz => ?_
 simp at hz
 rcases hz with rfl | rfl | rfl <;> assumption
theorem impl_sealer_no (k : Int) (w : World) (hT : Pow10 w) (wf : (Lit.int .i64 k).wf = true) (h : mValid k = false) : Calls Tryd.prog 73 #[.int .i64 k] w (Says (.func (.func 89) #[] #[]) w) := by
 have C0 := impl_IsValidKey k (w.alloc (.cells #[.int .i64 k] 3)) (pow10_below hT ((Below.refl _ _).alloc (Nat.le_refl _) _)) wf
 rw [h] at C0
 replace C0 := Lib.hid C0
 clear hT wf h
 go_enter Tryd.func73, Tryd.ntmps73
 go_wp2_with fail
 refine Calls.mono C0.out ?_
 rintro e w1 ⟨rfl, hb1⟩
 have HB1 := Lib.hid (below_trans ((Below.refl _ _).alloc (Nat.le_refl _) _) hb1 (by simp))
 clear hb1
 go_wp2_with fail
 go_ret
 exact ⟨rfl, HB1.out⟩
theorem impl_sealer_yes (k : Int) (w : World) (hT : Pow10 w) (wf : (Lit.int .i64 k).wf = true) (h : mValid k = true) : Calls Tryd.prog 73 #[.int .i64 k] w
  fun e w' => ∃ B : Nat, e = .returned (.func (.func 90) #[] #[.pointer (some ⟨B, 0, none⟩)]) ∧ BoxAt w' B 3 #[.int .i64 k] ∧ Below w.heap.size w w' := by
 have hmf : ∀ (fn : Fn) (first cap : Array Value) (w : World), (Instr.makeFunc fn first cap).run Tryd.prog w = .ok (.func fn first cap) w := fun _ _ _ _ => rfl
 have C0 := impl_IsValidKey k (w.alloc (.cells #[.int .i64 k] 3)) (pow10_below hT ((Below.refl _ _).alloc (Nat.le_refl _) _)) wf
 rw [h] at C0
 replace C0 := Lib.hid C0
 clear hT wf h
 go_enter Tryd.func73, Tryd.ntmps73
 go_wp2_with fail
 refine Calls.mono C0.out ?_
 rintro e w1 ⟨rfl, hb1⟩
 have HB1 := Lib.hid (below_trans ((Below.refl _ _).alloc (Nat.le_refl _) _) hb1 (by simp))
 have HK := Lib.hid ((box_new w 3 #[.int .i64 k]).new hb1)
 clear hb1
 go_wp2_with fail
 go_ret
 exact ⟨w.heap.size, rfl, HK.out, HB1.out⟩
theorem impl_sealer1 (A : Option Addr) (n c : Nat) (w : World) : Calls Tryd.prog 89 #[.slice A n c] w (Says (.int .i64 0) w) := by
 go_enter Tryd.func89, Tryd.ntmps89
 go_wp2
 go_ret
 exact ⟨rfl, Below.refl _ _⟩
theorem impl_sealer2 (k : Int) (l : List Int) (A : Option Addr) (n c lo hi B : Nat) (w : World) (hK : BoxAt w B 3 #[.int .i64 k]) (wk : (Lit.int .i64 k).wf = true) (hn : n ≤ 1099511627000) (hr : Rd w lo hi 1 A n (i64s l)) (hb : Hid (I64s l)) :
  Calls Tryd.prog 90 #[.slice A n c, .pointer (some ⟨B, 0, none⟩)] w (Says (.int .i64 (mKHash k l)) w) := by
 have C0 := Lib.hid (impl_KeyedHash' k l A n c lo hi w wk hn hr hb)
 have c0 : w.cell? ⟨B, 0, none⟩ = some (.int .i64 k) := hK.at_ rfl
 clear hr wk hK
 go_enter Tryd.func90, Tryd.ntmps90
 go_wp2_with fail
 refine Calls.mono C0.out ?_
 rintro e w1 ⟨rfl, hb1⟩
 have HB1 := Lib.hid hb1
 clear hb1
 go_wp2_with fail
 go_ret
 exact ⟨rfl, HB1.out⟩
structure SealW (w W : World) (x : TLetter) : Prop where
 bx : ∃ v, BoxAt W w.heap.size 62 #[.int .i64 x.f0, .int .i64 x.f1, .int .i64 x.f2, v]
 br : BoxAt W (w.heap.size + 1) 62 #[.int .i64 0, .int .i64 0, .int .i64 0, .int .i64 0]
 below : Below w.heap.size w W
theorem SealW.new {w W W' : World} {x : TLetter} (h : SealW w W x) (hb : Below W.heap.size W W') : SealW w W' x := by
 obtain ⟨⟨v, h1⟩, h2, h3⟩ := h
 exact ⟨⟨v, h1.new hb⟩, h2.new hb, below_trans h3 hb (Nat.le_refl _)⟩
theorem SealW.size {w W : World} {x : TLetter} (h : SealW w W x) : w.heap.size ≤ W.heap.size := h.below.size

set_option maxHeartbeats 8000000 in
theorem impl_SealLetter (k : Int) (x : TLetter) (w : World) (hT : Pow10 w) (wk : (Lit.int .i64 k).wf = true) (Hx : Hid (TLetter.fit x)) : Calls Tryd.prog 37 #[.int .i64 k, vLetter x] w (Says (vLetter (mSeal k x)) w) := by
 have KB0 : BoxAt ((w.alloc (.cells #[.int .i64 x.f0, .int .i64 x.f1, .int .i64 x.f2, .int .i64 x.f3] 62)).alloc (.cells #[.int .i64 0, .int .i64 0, .int .i64 0, .int .i64 0] 62)).drew w.heap.size 62 #[.int .i64 x.f0, .int .i64 x.f1, .int .i64 x.f2, .int .i64 x.f3] := (((by simpa using box_new w 62 #[.int .i64 x.f0, .int .i64 x.f1, .int .i64 x.f2, .int .i64 x.f3] : BoxAt (w.alloc (.cells #[.int .i64 x.f0, .int .i64 x.f1, .int .i64 x.f2, .int .i64 x.f3] 62)) w.heap.size 62 #[.int .i64 x.f0, .int .i64 x.f1, .int .i64 x.f2, .int .i64 x.f3])).alloc_ (.cells #[.int .i64 0, .int .i64 0, .int .i64 0, .int .i64 0] 62)).drw
 have KB1 : BoxAt ((w.alloc (.cells #[.int .i64 x.f0, .int .i64 x.f1, .int .i64 x.f2, .int .i64 x.f3] 62)).alloc (.cells #[.int .i64 0, .int .i64 0, .int .i64 0, .int .i64 0] 62)).drew (w.heap.size + 1) 62 #[.int .i64 0, .int .i64 0, .int .i64 0, .int .i64 0] := ((by simpa using box_new (w.alloc (.cells #[.int .i64 x.f0, .int .i64 x.f1, .int .i64 x.f2, .int .i64 x.f3] 62)) 62 #[.int .i64 0, .int .i64 0, .int .i64 0, .int .i64 0] : BoxAt ((w.alloc (.cells #[.int .i64 x.f0, .int .i64 x.f1, .int .i64 x.f2, .int .i64 x.f3] 62)).alloc (.cells #[.int .i64 0, .int .i64 0, .int .i64 0, .int .i64 0] 62)) (w.heap.size + 1) 62 #[.int .i64 0, .int .i64 0, .int .i64 0, .int .i64 0])).drw
 have HBw : Below w.heap.size w ((w.alloc (.cells #[.int .i64 x.f0, .int .i64 x.f1, .int .i64 x.f2, .int .i64 x.f3] 62)).alloc (.cells #[.int .i64 0, .int .i64 0, .int .i64 0, .int .i64 0] 62)).drew := (((Below.refl _ _).alloc (by first | exact Nat.le_refl _ | (simp; done) | (simp; omega)) _).alloc (by first | exact Nat.le_refl _ | (simp; done) | (simp; omega)) _).drew
 cases hv : mValid k
 ·
  have HV := Lib.hid (show mSeal k x = ⟨x.f0, x.f1, x.f2, 0⟩ by unfold mSeal mSealOf; rw [hv]; rfl)
  rw [HV.out]
  have C0 := Lib.hid (fun W hT => impl_sealer_no k W hT wk hv)
  clear hv wk
  go_enter Tryd.func37, Tryd.ntmps37
  go_wp2_with fail
  refine wp_region_held_drew (S := fun w' => SealW w w' x) (by kernel_rfl) ?_ (fun hHeld => ?_)
  ·
   exact (⟨⟨_, KB0⟩, KB1, HBw⟩ : SealW w _ x)
  generalize (World.drew _) = x0 at hHeld ⊢
  refine tk (i := 0) (oi := ⟨some 5, _, _, _, _, _⟩) (v := ?_) rfl hHeld ?_ ?_; rotate_left; (focus (intro W hS; obtain ⟨v, hbx⟩ := hS.bx; have c0 := hbx.at_ (j := 0) rfl; have c1 := hbx.at_ (j := 1) rfl; have c2 := hbx.at_ (j := 2) rfl; clear hbx; clear hS; go_simp; try with_reducible rfl)); try simp only [ptl]
  refine tk (i := 2) (oi := ⟨some 7, _, _, _, _, _⟩) (v := ?_) rfl hHeld ?_ ?_; rotate_left; (focus (intro W hS; obtain ⟨v, hbx⟩ := hS.bx; have c0 := hbx.at_ (j := 0) rfl; have c1 := hbx.at_ (j := 1) rfl; have c2 := hbx.at_ (j := 2) rfl; clear hbx; clear hS; go_simp; try with_reducible rfl)); try simp only [ptl]
  refine tk (i := 3) (oi := ⟨some 8, _, _, _, _, _⟩) (v := ?_) rfl hHeld ?_ ?_; rotate_left; (focus (intro W hS; obtain ⟨v, hbx⟩ := hS.bx; have c0 := hbx.at_ (j := 0) rfl; have c1 := hbx.at_ (j := 1) rfl; have c2 := hbx.at_ (j := 2) rfl; clear hbx; clear hS; go_simp; try with_reducible rfl)); try simp only [ptl]
  refine tk (i := 4) (oi := ⟨some 9, _, _, _, _, _⟩) (v := ?_) rfl hHeld ?_ ?_; rotate_left; (focus (intro W hS; obtain ⟨v, hbx⟩ := hS.bx; have c0 := hbx.at_ (j := 0) rfl; have c1 := hbx.at_ (j := 1) rfl; have c2 := hbx.at_ (j := 2) rfl; clear hbx; clear hS; go_simp; try with_reducible rfl)); try simp only [ptl]
  refine tk (i := 5) (oi := ⟨some 10, _, _, _, _, _⟩) (v := ?_) rfl hHeld ?_ ?_; rotate_left; (focus (intro W hS; obtain ⟨v, hbx⟩ := hS.bx; have c0 := hbx.at_ (j := 0) rfl; have c1 := hbx.at_ (j := 1) rfl; have c2 := hbx.at_ (j := 2) rfl; clear hbx; clear hS; go_simp; try with_reducible rfl)); try simp only [ptl]
  refine tk (i := 6) (oi := ⟨some 11, _, _, _, _, _⟩) (v := ?_) rfl hHeld ?_ ?_; rotate_left; (focus (intro W hS; obtain ⟨v, hbx⟩ := hS.bx; have c0 := hbx.at_ (j := 0) rfl; have c1 := hbx.at_ (j := 1) rfl; have c2 := hbx.at_ (j := 2) rfl; clear hbx; clear hS; go_simp; try with_reducible rfl)); try simp only [ptl]
  refine tk (i := 7) (oi := ⟨some 12, _, _, _, _, _⟩) (v := ?_) rfl hHeld ?_ ?_; rotate_left; (focus (intro W hS; obtain ⟨v, hbx⟩ := hS.bx; have c0 := hbx.at_ (j := 0) rfl; have c1 := hbx.at_ (j := 1) rfl; have c2 := hbx.at_ (j := 2) rfl; clear hbx; clear hS; go_simp; try with_reducible rfl)); try simp only [ptl]
  refine wpAnyH_ready (rs := [1, 8]) (by kernel_rfl) (by simp) ?_
  refine AllReadyH.cons (o := ⟨some 6, _, _, _, _, _⟩) rfl (fun K hK => ?_) ?_
  ·
   go_simp
   refine Calls.mono (C0.out _ (pow10_below hT hHeld.below)) ?_
   rintro e x1 ⟨rfl, hb1⟩
   refine hK.out _ _ (SealW.new hHeld hb1) (fun hHeld' => ?_)
   clear hK K hHeld hb1; have hHeld := hHeld'; clear hHeld'
   try simp only [ptl]
   refine rd1 (i := 8) (o := ⟨some 13, _, _, _, _, _⟩) rfl (fun K hK => ?_)
   go_simp
   have GV := box_new (x1) 3 #[.int .i64 x.f0, .int .i64 x.f1, .int .i64 x.f2]
   have hb1 := (Below.refl (x1).heap.size (x1)).alloc (Nat.le_refl _) (.cells #[.int .i64 x.f0, .int .i64 x.f1, .int .i64 x.f2] 3)
   have LV : w.heap.size ≤ (x1).heap.size := by have := (hHeld).size; omega
   generalize (x1).alloc (.cells #[.int .i64 x.f0, .int .i64 x.f1, .int .i64 x.f2] 3) = x2 at hb1 GV  ⊢
   generalize hg : (x1).heap.size = gV at GV LV  ⊢
   clear hg
   refine hK.out _ _ (SealW.new hHeld hb1) (fun hHeld' => ?_)
   clear hK K hHeld hb1; have hHeld := hHeld'; clear hHeld'
   try simp only [ptl]
   refine rd1 (i := 9) (o := ⟨some 14, _, _, _, _, _⟩) rfl (fun K hK => ?_)
   go_simp
   refine Calls.mono (impl_sealer1 _ _ _ _) ?_
   rintro e x3 ⟨rfl, hb1⟩
   replace GV := GV.new hb1
   refine hK.out _ _ (SealW.new hHeld hb1) (fun hHeld' => ?_)
   clear hK K hHeld hb1; have hHeld := hHeld'; clear hHeld'
   try simp only [ptl]
   refine tk (i := 10) (oi := ⟨some 15, _, _, _, _, _⟩) (v := ?_) rfl hHeld ?_ ?_; rotate_left; (focus (intro W hS; obtain ⟨v, hbx⟩ := hS.bx; have c0 := hbx.at_ (j := 0) rfl; have c1 := hbx.at_ (j := 1) rfl; have c2 := hbx.at_ (j := 2) rfl; clear hbx; clear hS; go_simp; try with_reducible rfl)); try simp only [ptl]
   refine rd1 (i := 11) (o := ⟨none, _, _, _, _, _⟩) rfl (fun K hK => ?_)
   obtain ⟨v, hbx⟩ := hHeld.bx
   have c3 := hbx.at_ (j := 3) rfl
   have f3 := hbx.free 3
   have hlt := hbx.lt
   go_simp
   have GX := bx_cell (u := .int .i64 0) (j := 3) hbx
   have GR := bx_cell_far (g := w.heap.size) (j := 3) (u := .int .i64 0) hHeld.br (by omega)
   have GB := hHeld.below.setCell (p := ⟨w.heap.size, 3, none⟩) (Nat.le_refl _) (.int .i64 0)
   refine hK.out _ _ ⟨⟨_, GX⟩, GR, GB⟩ (fun hHeld' => ?_)
   clear hK K hHeld hbx c3 f3 hHeld'
   try simp only [ptl]
   refine wpAnyH_done (by kernel_rfl) ?_ _
   have HX := Lib.hid GX
   have HR := Lib.hid GR
   have HB := Lib.hid GB
   clear GX GR GB
   have e0 := HX.out.at_ (j := 0) rfl
   have e1 := HX.out.at_ (j := 1) rfl
   have e2 := HX.out.at_ (j := 2) rfl
   have e3 := HX.out.at_ (j := 3) rfl
   go_wp2_with (refine wpList_store_row rfl 62 _ _ rfl (w.heap.size + 1) #[.int .i64 x.f0, .int .i64 x.f1, .int .i64 x.f2, .int .i64 0] rfl rfl 62 _ HR.out (by kernel_rfl) (by kernel_rfl) (by kernel_rfl) ?_)
   have k0 := (box_row (cs := #[.int .i64 x.f0, .int .i64 x.f1, .int .i64 x.f2, .int .i64 0]) HR.out).at_ (j := 0) rfl
   have k1 := (box_row (cs := #[.int .i64 x.f0, .int .i64 x.f1, .int .i64 x.f2, .int .i64 0]) HR.out).at_ (j := 1) rfl
   have k2 := (box_row (cs := #[.int .i64 x.f0, .int .i64 x.f1, .int .i64 x.f2, .int .i64 0]) HR.out).at_ (j := 2) rfl
   have k3 := (box_row (cs := #[.int .i64 x.f0, .int .i64 x.f1, .int .i64 x.f2, .int .i64 0]) HR.out).at_ (j := 3) rfl
   exact bodyPost_ret (v := vLetter ⟨x.f0, x.f1, x.f2, 0⟩) (by simp [results, Tryd.results37, go_sem, k0, k1, k2, k3]) rfl ⟨rfl, below_setRow HB.out (by omega) _⟩
  refine AllReadyH.cons (o := ⟨some 13, _, _, _, _, _⟩) rfl (fun K hK => ?_) ?_
  ·
   go_simp
   have GV := box_new (x0) 3 #[.int .i64 x.f0, .int .i64 x.f1, .int .i64 x.f2]
   have hb1 := (Below.refl (x0).heap.size (x0)).alloc (Nat.le_refl _) (.cells #[.int .i64 x.f0, .int .i64 x.f1, .int .i64 x.f2] 3)
   have LV : w.heap.size ≤ (x0).heap.size := by have := (hHeld).size; omega
   generalize (x0).alloc (.cells #[.int .i64 x.f0, .int .i64 x.f1, .int .i64 x.f2] 3) = x1 at hb1 GV  ⊢
   generalize hg : (x0).heap.size = gV at GV LV  ⊢
   clear hg
   refine hK.out _ _ (SealW.new hHeld hb1) (fun hHeld' => ?_)
   clear hK K hHeld hb1; have hHeld := hHeld'; clear hHeld'
   try simp only [ptl]
   refine rd1 (i := 1) (o := ⟨some 6, _, _, _, _, _⟩) rfl (fun K hK => ?_)
   go_simp
   refine Calls.mono (C0.out _ (pow10_below hT hHeld.below)) ?_
   rintro e x2 ⟨rfl, hb1⟩
   replace GV := GV.new hb1
   refine hK.out _ _ (SealW.new hHeld hb1) (fun hHeld' => ?_)
   clear hK K hHeld hb1; have hHeld := hHeld'; clear hHeld'
   try simp only [ptl]
   refine rd1 (i := 9) (o := ⟨some 14, _, _, _, _, _⟩) rfl (fun K hK => ?_)
   go_simp
   refine Calls.mono (impl_sealer1 _ _ _ _) ?_
   rintro e x3 ⟨rfl, hb1⟩
   replace GV := GV.new hb1
   refine hK.out _ _ (SealW.new hHeld hb1) (fun hHeld' => ?_)
   clear hK K hHeld hb1; have hHeld := hHeld'; clear hHeld'
   try simp only [ptl]
   refine tk (i := 10) (oi := ⟨some 15, _, _, _, _, _⟩) (v := ?_) rfl hHeld ?_ ?_; rotate_left; (focus (intro W hS; obtain ⟨v, hbx⟩ := hS.bx; have c0 := hbx.at_ (j := 0) rfl; have c1 := hbx.at_ (j := 1) rfl; have c2 := hbx.at_ (j := 2) rfl; clear hbx; clear hS; go_simp; try with_reducible rfl)); try simp only [ptl]
   refine rd1 (i := 11) (o := ⟨none, _, _, _, _, _⟩) rfl (fun K hK => ?_)
   obtain ⟨v, hbx⟩ := hHeld.bx
   have c3 := hbx.at_ (j := 3) rfl
   have f3 := hbx.free 3
   have hlt := hbx.lt
   go_simp
   have GX := bx_cell (u := .int .i64 0) (j := 3) hbx
   have GR := bx_cell_far (g := w.heap.size) (j := 3) (u := .int .i64 0) hHeld.br (by omega)
   have GB := hHeld.below.setCell (p := ⟨w.heap.size, 3, none⟩) (Nat.le_refl _) (.int .i64 0)
   refine hK.out _ _ ⟨⟨_, GX⟩, GR, GB⟩ (fun hHeld' => ?_)
   clear hK K hHeld hbx c3 f3 hHeld'
   try simp only [ptl]
   refine wpAnyH_done (by kernel_rfl) ?_ _
   have HX := Lib.hid GX
   have HR := Lib.hid GR
   have HB := Lib.hid GB
   clear GX GR GB
   have e0 := HX.out.at_ (j := 0) rfl
   have e1 := HX.out.at_ (j := 1) rfl
   have e2 := HX.out.at_ (j := 2) rfl
   have e3 := HX.out.at_ (j := 3) rfl
   go_wp2_with (refine wpList_store_row rfl 62 _ _ rfl (w.heap.size + 1) #[.int .i64 x.f0, .int .i64 x.f1, .int .i64 x.f2, .int .i64 0] rfl rfl 62 _ HR.out (by kernel_rfl) (by kernel_rfl) (by kernel_rfl) ?_)
   have k0 := (box_row (cs := #[.int .i64 x.f0, .int .i64 x.f1, .int .i64 x.f2, .int .i64 0]) HR.out).at_ (j := 0) rfl
   have k1 := (box_row (cs := #[.int .i64 x.f0, .int .i64 x.f1, .int .i64 x.f2, .int .i64 0]) HR.out).at_ (j := 1) rfl
   have k2 := (box_row (cs := #[.int .i64 x.f0, .int .i64 x.f1, .int .i64 x.f2, .int .i64 0]) HR.out).at_ (j := 2) rfl
   have k3 := (box_row (cs := #[.int .i64 x.f0, .int .i64 x.f1, .int .i64 x.f2, .int .i64 0]) HR.out).at_ (j := 3) rfl
   exact bodyPost_ret (v := vLetter ⟨x.f0, x.f1, x.f2, 0⟩) (by simp [results, Tryd.results37, go_sem, k0, k1, k2, k3]) rfl ⟨rfl, below_setRow HB.out (by omega) _⟩
  exact AllReadyH.nil
 ·
  have HV := Lib.hid (show mSeal k x = ⟨x.f0, x.f1, x.f2, mKHash k [x.f0, x.f1, x.f2]⟩ by unfold mSeal mSealOf; rw [hv]; rfl)
  rw [HV.out]
  have C0 := Lib.hid (fun W hT => impl_sealer_yes k W hT wk hv)
  have C1 := fun (W : World) (g : Nat) {B : Nat} (hK : BoxAt W B 3 #[.int .i64 k]) (hV : BoxAt W g 3 #[.int .i64 x.f0, .int .i64 x.f1, .int .i64 x.f2]) => impl_sealer2 k [x.f0, x.f1, x.f2] (some ⟨g, 0, none⟩) 3 3 g (g + 1) B W hK wk (by decide) (rd_boxi hV) (letter_i64 Hx.out)
  generalize mKHash k [x.f0, x.f1, x.f2] = z at C1 ⊢
  replace C1 := Lib.hid C1
  clear hv wk
  go_enter Tryd.func37, Tryd.ntmps37
  go_wp2_with fail
  refine wp_region_held_drew (S := fun w' => SealW w w' x) (by kernel_rfl) ?_ (fun hHeld => ?_)
  ·
   exact (⟨⟨_, KB0⟩, KB1, HBw⟩ : SealW w _ x)
  generalize (World.drew _) = x0 at hHeld ⊢
  refine tk (i := 0) (oi := ⟨some 5, _, _, _, _, _⟩) (v := ?_) rfl hHeld ?_ ?_; rotate_left; (focus (intro W hS; obtain ⟨v, hbx⟩ := hS.bx; have c0 := hbx.at_ (j := 0) rfl; have c1 := hbx.at_ (j := 1) rfl; have c2 := hbx.at_ (j := 2) rfl; clear hbx; clear hS; go_simp; try with_reducible rfl)); try simp only [ptl]
  refine tk (i := 2) (oi := ⟨some 7, _, _, _, _, _⟩) (v := ?_) rfl hHeld ?_ ?_; rotate_left; (focus (intro W hS; obtain ⟨v, hbx⟩ := hS.bx; have c0 := hbx.at_ (j := 0) rfl; have c1 := hbx.at_ (j := 1) rfl; have c2 := hbx.at_ (j := 2) rfl; clear hbx; clear hS; go_simp; try with_reducible rfl)); try simp only [ptl]
  refine tk (i := 3) (oi := ⟨some 8, _, _, _, _, _⟩) (v := ?_) rfl hHeld ?_ ?_; rotate_left; (focus (intro W hS; obtain ⟨v, hbx⟩ := hS.bx; have c0 := hbx.at_ (j := 0) rfl; have c1 := hbx.at_ (j := 1) rfl; have c2 := hbx.at_ (j := 2) rfl; clear hbx; clear hS; go_simp; try with_reducible rfl)); try simp only [ptl]
  refine tk (i := 4) (oi := ⟨some 9, _, _, _, _, _⟩) (v := ?_) rfl hHeld ?_ ?_; rotate_left; (focus (intro W hS; obtain ⟨v, hbx⟩ := hS.bx; have c0 := hbx.at_ (j := 0) rfl; have c1 := hbx.at_ (j := 1) rfl; have c2 := hbx.at_ (j := 2) rfl; clear hbx; clear hS; go_simp; try with_reducible rfl)); try simp only [ptl]
  refine tk (i := 5) (oi := ⟨some 10, _, _, _, _, _⟩) (v := ?_) rfl hHeld ?_ ?_; rotate_left; (focus (intro W hS; obtain ⟨v, hbx⟩ := hS.bx; have c0 := hbx.at_ (j := 0) rfl; have c1 := hbx.at_ (j := 1) rfl; have c2 := hbx.at_ (j := 2) rfl; clear hbx; clear hS; go_simp; try with_reducible rfl)); try simp only [ptl]
  refine tk (i := 6) (oi := ⟨some 11, _, _, _, _, _⟩) (v := ?_) rfl hHeld ?_ ?_; rotate_left; (focus (intro W hS; obtain ⟨v, hbx⟩ := hS.bx; have c0 := hbx.at_ (j := 0) rfl; have c1 := hbx.at_ (j := 1) rfl; have c2 := hbx.at_ (j := 2) rfl; clear hbx; clear hS; go_simp; try with_reducible rfl)); try simp only [ptl]
  refine tk (i := 7) (oi := ⟨some 12, _, _, _, _, _⟩) (v := ?_) rfl hHeld ?_ ?_; rotate_left; (focus (intro W hS; obtain ⟨v, hbx⟩ := hS.bx; have c0 := hbx.at_ (j := 0) rfl; have c1 := hbx.at_ (j := 1) rfl; have c2 := hbx.at_ (j := 2) rfl; clear hbx; clear hS; go_simp; try with_reducible rfl)); try simp only [ptl]
  refine wpAnyH_ready (rs := [1, 8]) (by kernel_rfl) (by simp) ?_
  refine AllReadyH.cons (o := ⟨some 6, _, _, _, _, _⟩) rfl (fun K hK => ?_) ?_
  ·
   go_simp
   refine Calls.mono (C0.out _ (pow10_below hT hHeld.below)) ?_
   rintro e x1 ⟨gK, rfl, GK, hb1⟩
   refine hK.out _ _ (SealW.new hHeld hb1) (fun hHeld' => ?_)
   clear hK K hHeld hb1; have hHeld := hHeld'; clear hHeld'
   try simp only [ptl]
   refine rd1 (i := 8) (o := ⟨some 13, _, _, _, _, _⟩) rfl (fun K hK => ?_)
   go_simp
   have GV := box_new (x1) 3 #[.int .i64 x.f0, .int .i64 x.f1, .int .i64 x.f2]
   have hb1 := (Below.refl (x1).heap.size (x1)).alloc (Nat.le_refl _) (.cells #[.int .i64 x.f0, .int .i64 x.f1, .int .i64 x.f2] 3)
   have LV : w.heap.size ≤ (x1).heap.size := by have := (hHeld).size; omega
   have NKV : gK < (x1).heap.size := GK.lt
   replace GK := GK.new hb1
   generalize (x1).alloc (.cells #[.int .i64 x.f0, .int .i64 x.f1, .int .i64 x.f2] 3) = x2 at hb1 GV GK ⊢
   generalize hg : (x1).heap.size = gV at GV LV NKV ⊢
   clear hg
   refine hK.out _ _ (SealW.new hHeld hb1) (fun hHeld' => ?_)
   clear hK K hHeld hb1; have hHeld := hHeld'; clear hHeld'
   try simp only [ptl]
   refine rd1 (i := 9) (o := ⟨some 14, _, _, _, _, _⟩) rfl (fun K hK => ?_)
   go_simp
   refine Calls.mono (C1.out _ _ GK GV) ?_
   rintro e x3 ⟨rfl, hb1⟩
   replace GK := GK.new hb1
   replace GV := GV.new hb1
   refine hK.out _ _ (SealW.new hHeld hb1) (fun hHeld' => ?_)
   clear hK K hHeld hb1; have hHeld := hHeld'; clear hHeld'
   try simp only [ptl]
   refine tk (i := 10) (oi := ⟨some 15, _, _, _, _, _⟩) (v := ?_) rfl hHeld ?_ ?_; rotate_left; (focus (intro W hS; obtain ⟨v, hbx⟩ := hS.bx; have c0 := hbx.at_ (j := 0) rfl; have c1 := hbx.at_ (j := 1) rfl; have c2 := hbx.at_ (j := 2) rfl; clear hbx; clear hS; go_simp; try with_reducible rfl)); try simp only [ptl]
   refine rd1 (i := 11) (o := ⟨none, _, _, _, _, _⟩) rfl (fun K hK => ?_)
   obtain ⟨v, hbx⟩ := hHeld.bx
   have c3 := hbx.at_ (j := 3) rfl
   have f3 := hbx.free 3
   have hlt := hbx.lt
   go_simp
   have GX := bx_cell (u := .int .i64 z) (j := 3) hbx
   have GR := bx_cell_far (g := w.heap.size) (j := 3) (u := .int .i64 z) hHeld.br (by omega)
   have GB := hHeld.below.setCell (p := ⟨w.heap.size, 3, none⟩) (Nat.le_refl _) (.int .i64 z)
   refine hK.out _ _ ⟨⟨_, GX⟩, GR, GB⟩ (fun hHeld' => ?_)
   clear hK K hHeld hbx c3 f3 hHeld'
   try simp only [ptl]
   refine wpAnyH_done (by kernel_rfl) ?_ _
   have HX := Lib.hid GX
   have HR := Lib.hid GR
   have HB := Lib.hid GB
   clear GX GR GB
   have e0 := HX.out.at_ (j := 0) rfl
   have e1 := HX.out.at_ (j := 1) rfl
   have e2 := HX.out.at_ (j := 2) rfl
   have e3 := HX.out.at_ (j := 3) rfl
   go_wp2_with (refine wpList_store_row rfl 62 _ _ rfl (w.heap.size + 1) #[.int .i64 x.f0, .int .i64 x.f1, .int .i64 x.f2, .int .i64 z] rfl rfl 62 _ HR.out (by kernel_rfl) (by kernel_rfl) (by kernel_rfl) ?_)
   have k0 := (box_row (cs := #[.int .i64 x.f0, .int .i64 x.f1, .int .i64 x.f2, .int .i64 z]) HR.out).at_ (j := 0) rfl
   have k1 := (box_row (cs := #[.int .i64 x.f0, .int .i64 x.f1, .int .i64 x.f2, .int .i64 z]) HR.out).at_ (j := 1) rfl
   have k2 := (box_row (cs := #[.int .i64 x.f0, .int .i64 x.f1, .int .i64 x.f2, .int .i64 z]) HR.out).at_ (j := 2) rfl
   have k3 := (box_row (cs := #[.int .i64 x.f0, .int .i64 x.f1, .int .i64 x.f2, .int .i64 z]) HR.out).at_ (j := 3) rfl
   exact bodyPost_ret (v := vLetter ⟨x.f0, x.f1, x.f2, z⟩) (by simp [results, Tryd.results37, go_sem, k0, k1, k2, k3]) rfl ⟨rfl, below_setRow HB.out (by omega) _⟩
  refine AllReadyH.cons (o := ⟨some 13, _, _, _, _, _⟩) rfl (fun K hK => ?_) ?_
  ·
   go_simp
   have GV := box_new (x0) 3 #[.int .i64 x.f0, .int .i64 x.f1, .int .i64 x.f2]
   have hb1 := (Below.refl (x0).heap.size (x0)).alloc (Nat.le_refl _) (.cells #[.int .i64 x.f0, .int .i64 x.f1, .int .i64 x.f2] 3)
   have LV : w.heap.size ≤ (x0).heap.size := by have := (hHeld).size; omega
   generalize (x0).alloc (.cells #[.int .i64 x.f0, .int .i64 x.f1, .int .i64 x.f2] 3) = x1 at hb1 GV  ⊢
   generalize hg : (x0).heap.size = gV at GV LV  ⊢
   clear hg
   refine hK.out _ _ (SealW.new hHeld hb1) (fun hHeld' => ?_)
   clear hK K hHeld hb1; have hHeld := hHeld'; clear hHeld'
   try simp only [ptl]
   refine rd1 (i := 1) (o := ⟨some 6, _, _, _, _, _⟩) rfl (fun K hK => ?_)
   go_simp
   refine Calls.mono (C0.out _ (pow10_below hT hHeld.below)) ?_
   rintro e x2 ⟨gK, rfl, GK, hb1⟩
   replace GV := GV.new hb1
   refine hK.out _ _ (SealW.new hHeld hb1) (fun hHeld' => ?_)
   clear hK K hHeld hb1; have hHeld := hHeld'; clear hHeld'
   try simp only [ptl]
   refine rd1 (i := 9) (o := ⟨some 14, _, _, _, _, _⟩) rfl (fun K hK => ?_)
   go_simp
   refine Calls.mono (C1.out _ _ GK GV) ?_
   rintro e x3 ⟨rfl, hb1⟩
   replace GV := GV.new hb1
   replace GK := GK.new hb1
   refine hK.out _ _ (SealW.new hHeld hb1) (fun hHeld' => ?_)
   clear hK K hHeld hb1; have hHeld := hHeld'; clear hHeld'
   try simp only [ptl]
   refine tk (i := 10) (oi := ⟨some 15, _, _, _, _, _⟩) (v := ?_) rfl hHeld ?_ ?_; rotate_left; (focus (intro W hS; obtain ⟨v, hbx⟩ := hS.bx; have c0 := hbx.at_ (j := 0) rfl; have c1 := hbx.at_ (j := 1) rfl; have c2 := hbx.at_ (j := 2) rfl; clear hbx; clear hS; go_simp; try with_reducible rfl)); try simp only [ptl]
   refine rd1 (i := 11) (o := ⟨none, _, _, _, _, _⟩) rfl (fun K hK => ?_)
   obtain ⟨v, hbx⟩ := hHeld.bx
   have c3 := hbx.at_ (j := 3) rfl
   have f3 := hbx.free 3
   have hlt := hbx.lt
   go_simp
   have GX := bx_cell (u := .int .i64 z) (j := 3) hbx
   have GR := bx_cell_far (g := w.heap.size) (j := 3) (u := .int .i64 z) hHeld.br (by omega)
   have GB := hHeld.below.setCell (p := ⟨w.heap.size, 3, none⟩) (Nat.le_refl _) (.int .i64 z)
   refine hK.out _ _ ⟨⟨_, GX⟩, GR, GB⟩ (fun hHeld' => ?_)
   clear hK K hHeld hbx c3 f3 hHeld'
   try simp only [ptl]
   refine wpAnyH_done (by kernel_rfl) ?_ _
   have HX := Lib.hid GX
   have HR := Lib.hid GR
   have HB := Lib.hid GB
   clear GX GR GB
   have e0 := HX.out.at_ (j := 0) rfl
   have e1 := HX.out.at_ (j := 1) rfl
   have e2 := HX.out.at_ (j := 2) rfl
   have e3 := HX.out.at_ (j := 3) rfl
   go_wp2_with (refine wpList_store_row rfl 62 _ _ rfl (w.heap.size + 1) #[.int .i64 x.f0, .int .i64 x.f1, .int .i64 x.f2, .int .i64 z] rfl rfl 62 _ HR.out (by kernel_rfl) (by kernel_rfl) (by kernel_rfl) ?_)
   have k0 := (box_row (cs := #[.int .i64 x.f0, .int .i64 x.f1, .int .i64 x.f2, .int .i64 z]) HR.out).at_ (j := 0) rfl
   have k1 := (box_row (cs := #[.int .i64 x.f0, .int .i64 x.f1, .int .i64 x.f2, .int .i64 z]) HR.out).at_ (j := 1) rfl
   have k2 := (box_row (cs := #[.int .i64 x.f0, .int .i64 x.f1, .int .i64 x.f2, .int .i64 z]) HR.out).at_ (j := 2) rfl
   have k3 := (box_row (cs := #[.int .i64 x.f0, .int .i64 x.f1, .int .i64 x.f2, .int .i64 z]) HR.out).at_ (j := 3) rfl
   exact bodyPost_ret (v := vLetter ⟨x.f0, x.f1, x.f2, z⟩) (by simp [results, Tryd.results37, go_sem, k0, k1, k2, k3]) rfl ⟨rfl, below_setRow HB.out (by omega) _⟩
  exact AllReadyH.nil

set_option maxHeartbeats 8000000 in
theorem spec_SealLetter (k : Int) (x : TLetter) (w : World) (hT : Pow10 w) (wk : (Lit.int .i64 k).wf = true) (Hx : Hid (TLetter.fit x)) : Calls Tryd.prog 86 #[.int .i64 k, vLetter x] w (Says (vLetter (mSeal k x)) w) := by
 have KB0 : BoxAt ((w.alloc (.cells #[.int .i64 x.f0, .int .i64 x.f1, .int .i64 x.f2, .int .i64 0] 62)).alloc (.cells #[.int .i64 0, .int .i64 0, .int .i64 0, .int .i64 0] 62)) w.heap.size 62 #[.int .i64 x.f0, .int .i64 x.f1, .int .i64 x.f2, .int .i64 0] := ((by simpa using box_new w 62 #[.int .i64 x.f0, .int .i64 x.f1, .int .i64 x.f2, .int .i64 0] : BoxAt (w.alloc (.cells #[.int .i64 x.f0, .int .i64 x.f1, .int .i64 x.f2, .int .i64 0] 62)) w.heap.size 62 #[.int .i64 x.f0, .int .i64 x.f1, .int .i64 x.f2, .int .i64 0])).alloc_ (.cells #[.int .i64 0, .int .i64 0, .int .i64 0, .int .i64 0] 62)
 have KB1 : BoxAt ((w.alloc (.cells #[.int .i64 x.f0, .int .i64 x.f1, .int .i64 x.f2, .int .i64 0] 62)).alloc (.cells #[.int .i64 0, .int .i64 0, .int .i64 0, .int .i64 0] 62)) (w.heap.size + 1) 62 #[.int .i64 0, .int .i64 0, .int .i64 0, .int .i64 0] := (by simpa using box_new (w.alloc (.cells #[.int .i64 x.f0, .int .i64 x.f1, .int .i64 x.f2, .int .i64 0] 62)) 62 #[.int .i64 0, .int .i64 0, .int .i64 0, .int .i64 0] : BoxAt ((w.alloc (.cells #[.int .i64 x.f0, .int .i64 x.f1, .int .i64 x.f2, .int .i64 0] 62)).alloc (.cells #[.int .i64 0, .int .i64 0, .int .i64 0, .int .i64 0] 62)) (w.heap.size + 1) 62 #[.int .i64 0, .int .i64 0, .int .i64 0, .int .i64 0])
 have HBw : Below w.heap.size w ((w.alloc (.cells #[.int .i64 x.f0, .int .i64 x.f1, .int .i64 x.f2, .int .i64 0] 62)).alloc (.cells #[.int .i64 0, .int .i64 0, .int .i64 0, .int .i64 0] 62)) := (((Below.refl _ _).alloc (by first | exact Nat.le_refl _ | (simp; done) | (simp; omega)) _).alloc (by first | exact Nat.le_refl _ | (simp; done) | (simp; omega)) _)
 have HX := Lib.hid KB0
 have HR := Lib.hid KB1
 have HB := Lib.hid HBw
 have C0 := spec_IsValidKey k _ (pow10_below hT HBw) wk
 clear KB0 KB1 HBw hT
 cases hv : mValid k
 ·
  have HV := Lib.hid (show mSeal k x = ⟨x.f0, x.f1, x.f2, 0⟩ by unfold mSeal mSealOf; rw [hv]; rfl)
  rw [HV.out]
  rw [hv] at C0
  replace C0 := Lib.hid C0
  clear hv wk
  go_enter Tryd.func86, Tryd.ntmps86
  go_wp2_with fail
  refine Calls.mono (C0.out) ?_
  rintro e w1 ⟨rfl, hb1⟩
  replace HX := Lib.hid ((HX.out).new hb1)
  replace HR := Lib.hid ((HR.out).new hb1)
  replace HB := Lib.hid (below_trans (HB.out) hb1 (Nat.le_refl _))
  have lHX : w.heap.size < w1.heap.size := HX.out.lt
  have lHR : w.heap.size + 1 < w1.heap.size := HR.out.lt
  clear hb1
  have eHX0 := HX.out.at_ (j := 0) rfl
  have eHX1 := HX.out.at_ (j := 1) rfl
  have eHX2 := HX.out.at_ (j := 2) rfl
  have eHX3 := HX.out.at_ (j := 3) rfl
  have fHX0 := HX.out.free 0
  have fHX1 := HX.out.free 1
  have fHX2 := HX.out.free 2
  have fHX3 := HX.out.free 3
  have HR2 := HR
  go_wp2_with (refine wpList_store_row rfl 62 _ _ rfl (w.heap.size + 1) #[.int .i64 x.f0, .int .i64 x.f1, .int .i64 x.f2, .int .i64 0] rfl rfl 62 _ HR2.out (by kernel_rfl) (by kernel_rfl) (by kernel_rfl) ?_)
  have k0 := (box_row (cs := #[.int .i64 x.f0, .int .i64 x.f1, .int .i64 x.f2, .int .i64 0]) HR2.out).at_ (j := 0) rfl
  have k1 := (box_row (cs := #[.int .i64 x.f0, .int .i64 x.f1, .int .i64 x.f2, .int .i64 0]) HR2.out).at_ (j := 1) rfl
  have k2 := (box_row (cs := #[.int .i64 x.f0, .int .i64 x.f1, .int .i64 x.f2, .int .i64 0]) HR2.out).at_ (j := 2) rfl
  have k3 := (box_row (cs := #[.int .i64 x.f0, .int .i64 x.f1, .int .i64 x.f2, .int .i64 0]) HR2.out).at_ (j := 3) rfl
  exact bodyPost_ret (v := vLetter ⟨x.f0, x.f1, x.f2, 0⟩) (by simp [results, Tryd.results86, go_sem, k0, k1, k2, k3]) rfl ⟨rfl, below_setRow HB.out (by omega) _⟩
 ·
  have HV := Lib.hid (show mSeal k x = ⟨x.f0, x.f1, x.f2, mKHash k [x.f0, x.f1, x.f2]⟩ by unfold mSeal mSealOf; rw [hv]; rfl)
  rw [HV.out]
  rw [hv] at C0
  replace C0 := Lib.hid C0
  have C1 := fun (W : World) (g : Nat) (hV : BoxAt W g 3 #[.int .i64 x.f0, .int .i64 x.f1, .int .i64 x.f2]) => spec_KeyedHash' k [x.f0, x.f1, x.f2] (some ⟨g, 0, none⟩) 3 3 g (g + 1) W wk (by decide) (rd_boxi hV) (letter_i64 Hx.out)
  generalize mKHash k [x.f0, x.f1, x.f2] = z at C1 ⊢
  replace C1 := Lib.hid C1
  clear hv wk
  go_enter Tryd.func86, Tryd.ntmps86
  go_wp2_with fail
  refine Calls.mono (C0.out) ?_
  rintro e w1 ⟨rfl, hb1⟩
  replace HX := Lib.hid ((HX.out).new hb1)
  replace HR := Lib.hid ((HR.out).new hb1)
  replace HB := Lib.hid (below_trans (HB.out) hb1 (Nat.le_refl _))
  have lHX : w.heap.size < w1.heap.size := HX.out.lt
  have lHR : w.heap.size + 1 < w1.heap.size := HR.out.lt
  clear hb1
  have eHX0 := HX.out.at_ (j := 0) rfl
  have eHX1 := HX.out.at_ (j := 1) rfl
  have eHX2 := HX.out.at_ (j := 2) rfl
  have eHX3 := HX.out.at_ (j := 3) rfl
  have fHX0 := HX.out.free 0
  have fHX1 := HX.out.free 1
  have fHX2 := HX.out.free 2
  have fHX3 := HX.out.free 3
  go_wp2_with fail
  refine Calls.mono (C1.out _ _ (box_new _ _ _)) ?_
  rintro e w2 ⟨rfl, hb1⟩
  replace HX := Lib.hid ((HX.out.alloc_ _).new hb1)
  replace HR := Lib.hid ((HR.out.alloc_ _).new hb1)
  have HV := Lib.hid (((box_new _ _ _)).new hb1)
  replace HB := Lib.hid (below_trans ((HB.out.alloc (by first | exact Nat.le_refl _ | (simp; done) | (simp; omega) | omega) _)) hb1 (Nat.le_refl _))
  have lHX : w.heap.size < w2.heap.size := HX.out.lt
  have lHR : w.heap.size + 1 < w2.heap.size := HR.out.lt
  have lHV : w1.heap.size < w2.heap.size := HV.out.lt
  clear hb1
  have eHX0 := HX.out.at_ (j := 0) rfl
  have eHX1 := HX.out.at_ (j := 1) rfl
  have eHX2 := HX.out.at_ (j := 2) rfl
  have eHX3 := HX.out.at_ (j := 3) rfl
  have fHX0 := HX.out.free 0
  have fHX1 := HX.out.free 1
  have fHX2 := HX.out.free 2
  have fHX3 := HX.out.free 3
  have kHX0 := (bx_cell (u := .int .i64 z) (j := 3) HX.out).at_ (j := 0) rfl
  have kHX1 := (bx_cell (u := .int .i64 z) (j := 3) HX.out).at_ (j := 1) rfl
  have kHX2 := (bx_cell (u := .int .i64 z) (j := 3) HX.out).at_ (j := 2) rfl
  have kHX3 := (bx_cell (u := .int .i64 z) (j := 3) HX.out).at_ (j := 3) rfl
  have HR2 := Lib.hid (bx_cell_far (g := w.heap.size) (j := 3) (u := .int .i64 z) HR.out (by omega))
  go_wp2_with (refine wpList_store_row rfl 62 _ _ rfl (w.heap.size + 1) #[.int .i64 x.f0, .int .i64 x.f1, .int .i64 x.f2, .int .i64 z] rfl rfl 62 _ HR2.out (by kernel_rfl) (by kernel_rfl) (by kernel_rfl) ?_)
  have k0 := (box_row (cs := #[.int .i64 x.f0, .int .i64 x.f1, .int .i64 x.f2, .int .i64 z]) HR2.out).at_ (j := 0) rfl
  have k1 := (box_row (cs := #[.int .i64 x.f0, .int .i64 x.f1, .int .i64 x.f2, .int .i64 z]) HR2.out).at_ (j := 1) rfl
  have k2 := (box_row (cs := #[.int .i64 x.f0, .int .i64 x.f1, .int .i64 x.f2, .int .i64 z]) HR2.out).at_ (j := 2) rfl
  have k3 := (box_row (cs := #[.int .i64 x.f0, .int .i64 x.f1, .int .i64 x.f2, .int .i64 z]) HR2.out).at_ (j := 3) rfl
  exact bodyPost_ret (v := vLetter ⟨x.f0, x.f1, x.f2, z⟩) (by simp [results, Tryd.results86, go_sem, k0, k1, k2, k3]) rfl ⟨rfl, below_setRow (HB.out.setCell (by simp) _) (by omega) _⟩
end Go.Proofs.YtlnmgfbfpjfddaaDoor
