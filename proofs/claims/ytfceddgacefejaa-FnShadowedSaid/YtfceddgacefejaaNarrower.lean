/- IsNarrower, of the program. -/
import Derived.Test.YtfceddgacefejaaRgn
import Derived.Test.YtfceddgacefejaaSite
import Derived.Test.YtfceddgacefejaaToption
import Derived.Test.YtfceddgacefejaaReg
import Derived.Deep.RegionHeld3
import Derived.Deep.DeepCutAuto
namespace Go.Proofs.Ytfceddgacefejaa
open Go Go.ChangeShapes Go.WideShapes Go.ChangeAt Go.RowKit Go.Lib
set_option linter.unusedVariables false
set_option linter.unusedSimpArgs false
set_option maxRecDepth 100000
abbrev vOpt (all k : Int) : Value := .agg #[.bool (k != all), .int .i64 k]
theorem opt_same (all k m : Int) : decide ((⟨k != all, k⟩ : Toption) = ⟨m != all, m⟩) = (m == k) := by
 rw [Bool.eq_iff_iff]
 simp
 constructor
 ·
  rintro ⟨_, h⟩; exact h.symm
 ·
  rintro rfl; exact ⟨rfl, rfl⟩
theorem eql_opt (all k m : Int) (w : World) : (binOp .eql 136 (vOpt all k) (vOpt all m)).run Try.prog w = .ok (.bool (m == k)) w := by
 have h := eql_option ⟨k != all, k⟩ ⟨m != all, m⟩ w
 rw [opt_same] at h
 exact h
set_option maxHeartbeats 1000000 in
theorem impl_isWithin (all k m : Int) (w : World) :
  Calls Try.prog 217 #[vOpt all k, vOpt all m] w (Says (.bool (mTakes all m k)) w) := by
 have hb0 : (m != all) = !(m == all) := rfl
 by_cases h0 : (m == all) = true
 ·
  have HE := Lib.hid (show mTakes all m k = true by simp [mTakes, h0])
  unfold vOpt
  rw [hb0, h0]
  simp only [Bool.not_true]
  clear hb0
  go_enter Try.func217, Try.ntmps217
  go_wp2_with fail
  go_ret
  exact ⟨by rw [HE.out]; rfl, by repeat (first | with_reducible exact Below.refl _ _ | (with_reducible refine below_step ?_ (by assumption) (by first | omega | (simp <;> omega))) | (with_reducible refine Below.alloc ?_ (by first | omega | (simp <;> omega)) _) | (with_reducible refine Below.setCell ?_ (by first | omega | (simp <;> omega)) _) | (with_reducible refine Below.drew ?_) | (with_reducible refine below_dN ?_ _) | (refine Below.alloc ?_ (by first | omega | (simp <;> omega)) _))⟩
 ·
  have h0 : (m == all) = false := by simpa using h0
  have HE := Lib.hid (show mTakes all m k = (m == k) by simp [mTakes, h0])
  have g1 := fun w => eql_opt all k m w
  unfold vOpt at g1 ⊢
  rw [hb0, h0] at g1 ⊢
  simp only [Bool.not_false] at g1 ⊢
  clear hb0
  go_enter Try.func217, Try.ntmps217
  go_wp2_with fail
  go_ret
  exact ⟨by rw [HE.out]; rfl, by repeat (first | with_reducible exact Below.refl _ _ | (with_reducible refine below_step ?_ (by assumption) (by first | omega | (simp <;> omega))) | (with_reducible refine Below.alloc ?_ (by first | omega | (simp <;> omega)) _) | (with_reducible refine Below.setCell ?_ (by first | omega | (simp <;> omega)) _) | (with_reducible refine Below.drew ?_) | (with_reducible refine below_dN ?_ _) | (refine Below.alloc ?_ (by first | omega | (simp <;> omega)) _))⟩
/-- The two patterns and their two scopes lie in memory of the call's own. -/
structure Scopes (w wx : World) (g5 g6 : Nat) (p q : TPattern) : Prop where
 b5 : BoxAt wx g5 146 #[.bool (p.f0 != 0), .int .i64 p.f0, .bool (p.f1 != -1), .int .i64 p.f1]
 b6 : BoxAt wx g6 146 #[.bool (q.f0 != 0), .int .i64 q.f0, .bool (q.f1 != -1), .int .i64 q.f1]
 bp : BoxAt wx w.heap.size 33 #[.int .i64 p.f0, .int .i64 p.f1]
 bq : BoxAt wx (w.heap.size + 1) 33 #[.int .i64 q.f0, .int .i64 q.f1]
 ne : g5 ≠ g6
 l5 : w.heap.size + 2 ≤ g5
 l6 : w.heap.size + 2 ≤ g6
 below : Below w.heap.size w wx
theorem Scopes.new {w wx w1 : World} {g5 g6 : Nat} {p q : TPattern} (h : Scopes w wx g5 g6 p q) (hb : Below wx.heap.size wx w1) : Scopes w w1 g5 g6 p q :=
 ⟨h.b5.new hb, h.b6.new hb, h.bp.new hb, h.bq.new hb, h.ne, h.l5, h.l6, below_trans h.below hb (Nat.le_refl _)⟩
theorem narrower_eq (p q : TPattern) : mIsNarrower p q = (mIsPattern p && mIsPattern q && mTakes 0 q.f0 p.f0 && mTakes (-1) q.f1 p.f1) := by
 unfold mIsNarrower mTakes
 rw [show (p.f0 == q.f0) = (q.f0 == p.f0) from by rw [Bool.eq_iff_iff]; simp; exact eq_comm, show (p.f1 == q.f1) = (q.f1 == p.f1) from by rw [Bool.eq_iff_iff]; simp; exact eq_comm]

set_option maxHeartbeats 40000000 in
theorem impl_IsNarrower (p q : TPattern) (w : World) :
  Calls Try.prog 209 #[vPat p, vPat q] w (Says (.bool (mIsNarrower p q)) w) := by
 have C0 := fun W => impl_IsPattern p W
 have C1 := fun W => impl_IsPattern q W
 have C2 := fun W => impl_isWithin 0 p.f0 q.f0 W
 have C3 := fun W => impl_isWithin (-1) p.f1 q.f1 W
 rw [narrower_eq]
 generalize mIsPattern p = b0 at C0 ⊢
 generalize mIsPattern q = b1 at C1 ⊢
 generalize mTakes 0 q.f0 p.f0 = b2 at C2 ⊢
 generalize mTakes (-1) q.f1 p.f1 = b3 at C3 ⊢
 have C0 := Lib.hid C0
 have C1 := Lib.hid C1
 have C2 := Lib.hid C2
 have C3 := Lib.hid C3
 have KB0 : BoxAt ((w.alloc (.cells #[.int .i64 p.f0, .int .i64 p.f1] 33)).alloc (.cells #[.int .i64 q.f0, .int .i64 q.f1] 33)).drew w.heap.size 33 #[.int .i64 p.f0, .int .i64 p.f1] := (((by simpa using box_new w 33 #[.int .i64 p.f0, .int .i64 p.f1] : BoxAt (w.alloc (.cells #[.int .i64 p.f0, .int .i64 p.f1] 33)) w.heap.size 33 #[.int .i64 p.f0, .int .i64 p.f1])).alloc_ (.cells #[.int .i64 q.f0, .int .i64 q.f1] 33)).drw
 have KB1 : BoxAt ((w.alloc (.cells #[.int .i64 p.f0, .int .i64 p.f1] 33)).alloc (.cells #[.int .i64 q.f0, .int .i64 q.f1] 33)).drew (w.heap.size + 1) 33 #[.int .i64 q.f0, .int .i64 q.f1] := ((by simpa using box_new (w.alloc (.cells #[.int .i64 p.f0, .int .i64 p.f1] 33)) 33 #[.int .i64 q.f0, .int .i64 q.f1] : BoxAt ((w.alloc (.cells #[.int .i64 p.f0, .int .i64 p.f1] 33)).alloc (.cells #[.int .i64 q.f0, .int .i64 q.f1] 33)) (w.heap.size + 1) 33 #[.int .i64 q.f0, .int .i64 q.f1])).drw
 have HBw : Below w.heap.size w ((w.alloc (.cells #[.int .i64 p.f0, .int .i64 p.f1] 33)).alloc (.cells #[.int .i64 q.f0, .int .i64 q.f1] 33)).drew := (((Below.refl _ _).alloc (by first | exact Nat.le_refl _ | (simp; done) | (simp; omega)) _).alloc (by first | exact Nat.le_refl _ | (simp; done) | (simp; omega)) _).drew
 go_enter Try.func209, Try.ntmps209
 go_upto_region 1 with fail
 go_cut [5, 6] (fun s5 s6 wx => ∃ g5 g6 : Nat, s5 = .pointer (some ⟨g5, 0, none⟩) ∧ s6 = .pointer (some ⟨g6, 0, none⟩) ∧ Scopes w wx g5 g6 p q)
 case first =>
  refine wp_region_held_drew (S := fun w' => BoxAt w' w.heap.size 33 #[.int .i64 p.f0, .int .i64 p.f1] ∧ BoxAt w' (w.heap.size + 1) 33 #[.int .i64 q.f0, .int .i64 q.f1] ∧ Below w.heap.size w w') (by kernel_rfl) ?_ (fun hHeld => ?_)
  ·
   exact ⟨KB0, KB1, HBw⟩
  generalize ((w.alloc (.cells #[.int .i64 p.f0, .int .i64 p.f1] 33)).alloc (.cells #[.int .i64 q.f0, .int .i64 q.f1] 33)).drew = x0 at hHeld ⊢
  refine tk (i := 0) (oi := ⟨some 7, _, _, _, _, _⟩) (v := ?_) rfl hHeld ?_ ?_; rotate_left; (focus (intro W hS; have c0_0 := (hS.1).at_ (j := 0) rfl; have c0_1 := (hS.1).at_ (j := 1) rfl; have c1_0 := (hS.2.1).at_ (j := 0) rfl; have c1_1 := (hS.2.1).at_ (j := 1) rfl; clear hS; go_simp; try with_reducible rfl)); try simp only [ptl]
  refine tk (i := 2) (oi := ⟨some 9, _, _, _, _, _⟩) (v := ?_) rfl hHeld ?_ ?_; rotate_left; (focus (intro W hS; have c0_0 := (hS.1).at_ (j := 0) rfl; have c0_1 := (hS.1).at_ (j := 1) rfl; have c1_0 := (hS.2.1).at_ (j := 0) rfl; have c1_1 := (hS.2.1).at_ (j := 1) rfl; clear hS; go_simp; try with_reducible rfl)); try simp only [ptl]
  refine wpAnyH_ready (rs := [1, 4, 5]) (by kernel_rfl) (by simp) ?_
  refine AllReadyH.cons (o := ⟨some 8, _, _, _, _, _⟩) rfl (fun K hK => ?_) ?_
  ·
   go_simp
   refine Calls.mono (impl_scopeOf p _) ?_
   rintro e x1 ⟨rfl, hb1⟩
   refine hK.out _ _ ⟨hHeld.1.new hb1, hHeld.2.1.new hb1, below_trans hHeld.2.2 hb1 (Nat.le_refl _)⟩ (fun hHeld' => ?_)
   clear hK K hHeld hb1; have hHeld := hHeld'; clear hHeld'
   try simp only [ptl]
   refine wpAnyH_ready (rs := [3, 4, 5]) (by kernel_rfl) (by simp) ?_
   refine AllReadyH.cons (o := ⟨some 10, _, _, _, _, _⟩) rfl (fun K hK => ?_) ?_
   ·
    go_simp
    refine Calls.mono (impl_scopeOf q _) ?_
    rintro e x2 ⟨rfl, hb1⟩
    refine hK.out _ _ ⟨hHeld.1.new hb1, hHeld.2.1.new hb1, below_trans hHeld.2.2 hb1 (Nat.le_refl _)⟩ (fun hHeld' => ?_)
    clear hK K hHeld hb1; have hHeld := hHeld'; clear hHeld'
    try simp only [ptl]
    refine wpAnyH_ready (rs := [4, 5]) (by kernel_rfl) (by simp) ?_
    refine AllReadyH.cons (o := ⟨some 5, _, _, _, _, _⟩) rfl (fun K hK => ?_) ?_
    ·
     go_simp
     have GA := box_new (x2) 146 #[.bool false, .int .i64 0, .bool false, .int .i64 0]
     have hb1 := (Below.refl (x2).heap.size (x2)).alloc (Nat.le_refl _) (.cells #[.bool false, .int .i64 0, .bool false, .int .i64 0] 146)
     have LA : w.heap.size + 2 ≤ (x2).heap.size := by have := (hHeld.1).lt; have := (hHeld.2.1).lt; have := (hHeld.2.2).size; omega
     generalize (x2).alloc (.cells #[.bool false, .int .i64 0, .bool false, .int .i64 0] 146) = x3 at hb1 GA  ⊢
     generalize hg : (x2).heap.size = gA at GA LA  ⊢
     clear hg
     refine hK.out _ _ ⟨hHeld.1.new hb1, hHeld.2.1.new hb1, below_trans hHeld.2.2 hb1 (Nat.le_refl _)⟩ (fun hHeld' => ?_)
     clear hK K hHeld hb1; have hHeld := hHeld'; clear hHeld'
     try simp only [ptl]
     refine rd1 (i := 5) (o := ⟨some 6, _, _, _, _, _⟩) rfl (fun K hK => ?_)
     go_simp
     have GB := box_new (x3) 146 #[.bool false, .int .i64 0, .bool false, .int .i64 0]
     have hb1 := (Below.refl (x3).heap.size (x3)).alloc (Nat.le_refl _) (.cells #[.bool false, .int .i64 0, .bool false, .int .i64 0] 146)
     have LB : w.heap.size + 2 ≤ (x3).heap.size := by have := (hHeld.1).lt; have := (hHeld.2.1).lt; have := (hHeld.2.2).size; omega
     have NAB : gA < (x3).heap.size := GA.lt
     replace GA := GA.new hb1
     generalize (x3).alloc (.cells #[.bool false, .int .i64 0, .bool false, .int .i64 0] 146) = x4 at hb1 GB GA ⊢
     generalize hg : (x3).heap.size = gB at GB LB NAB ⊢
     clear hg
     refine hK.out _ _ ⟨hHeld.1.new hb1, hHeld.2.1.new hb1, below_trans hHeld.2.2 hb1 (Nat.le_refl _)⟩ (fun hHeld' => ?_)
     clear hK K hHeld hb1; have hHeld := hHeld'; clear hHeld'
     try simp only [ptl]
     refine rd1 (i := 6) (o := ⟨none, _, _, _, _, _⟩) rfl (fun K hK => ?_)
     rw [if_pos (by rfl)]
     refine wp_store_row 146 _ _ rfl gA #[.bool (p.f0 != 0), .int .i64 p.f0, .bool (p.f1 != -1), .int .i64 p.f1] rfl rfl 146 _ GA (by kernel_rfl) (by kernel_rfl) (by kernel_rfl) ?_
     replace GA := box_row (cs := #[.bool (p.f0 != 0), .int .i64 p.f0, .bool (p.f1 != -1), .int .i64 p.f1]) GA
     replace GB := box_far (cs := #[.bool (p.f0 != 0), .int .i64 p.f0, .bool (p.f1 != -1), .int .i64 p.f1]) (g := gA) GB (by omega)
     have hc1 := chg_row x4 gA #[.bool (p.f0 != 0), .int .i64 p.f0, .bool (p.f1 != -1), .int .i64 p.f1]
     have hHeld2 : BoxAt (World.setRow x4 gA #[.bool (p.f0 != 0), .int .i64 p.f0, .bool (p.f1 != -1), .int .i64 p.f1]) w.heap.size 33 #[.int .i64 p.f0, .int .i64 p.f1] ∧ BoxAt (World.setRow x4 gA #[.bool (p.f0 != 0), .int .i64 p.f0, .bool (p.f1 != -1), .int .i64 p.f1]) (w.heap.size + 1) 33 #[.int .i64 q.f0, .int .i64 q.f1] ∧ Below w.heap.size w (World.setRow x4 gA #[.bool (p.f0 != 0), .int .i64 p.f0, .bool (p.f1 != -1), .int .i64 p.f1]) := ⟨hHeld.1.chg hc1 (by omega), hHeld.2.1.chg hc1 (by omega), below_setRow hHeld.2.2 (by omega) _⟩
     clear hc1
     generalize World.setRow x4 gA #[.bool (p.f0 != 0), .int .i64 p.f0, .bool (p.f1 != -1), .int .i64 p.f1] = x5 at hHeld2 GA GB ⊢
     refine hK.out _ _ hHeld2 (fun hHeld' => ?_)
     clear hHeld2
     clear hK K hHeld; have hHeld := hHeld'; clear hHeld'
     try simp only [ptl]
     refine rd1 (i := 7) (o := ⟨none, _, _, _, _, _⟩) rfl (fun K hK => ?_)
     rw [if_pos (by rfl)]
     refine wp_store_row 146 _ _ rfl gB #[.bool (q.f0 != 0), .int .i64 q.f0, .bool (q.f1 != -1), .int .i64 q.f1] rfl rfl 146 _ GB (by kernel_rfl) (by kernel_rfl) (by kernel_rfl) ?_
     replace GA := box_far (cs := #[.bool (q.f0 != 0), .int .i64 q.f0, .bool (q.f1 != -1), .int .i64 q.f1]) (g := gB) GA (by omega)
     replace GB := box_row (cs := #[.bool (q.f0 != 0), .int .i64 q.f0, .bool (q.f1 != -1), .int .i64 q.f1]) GB
     have hc1 := chg_row x5 gB #[.bool (q.f0 != 0), .int .i64 q.f0, .bool (q.f1 != -1), .int .i64 q.f1]
     have hHeld2 : BoxAt (World.setRow x5 gB #[.bool (q.f0 != 0), .int .i64 q.f0, .bool (q.f1 != -1), .int .i64 q.f1]) w.heap.size 33 #[.int .i64 p.f0, .int .i64 p.f1] ∧ BoxAt (World.setRow x5 gB #[.bool (q.f0 != 0), .int .i64 q.f0, .bool (q.f1 != -1), .int .i64 q.f1]) (w.heap.size + 1) 33 #[.int .i64 q.f0, .int .i64 q.f1] ∧ Below w.heap.size w (World.setRow x5 gB #[.bool (q.f0 != 0), .int .i64 q.f0, .bool (q.f1 != -1), .int .i64 q.f1]) := ⟨hHeld.1.chg hc1 (by omega), hHeld.2.1.chg hc1 (by omega), below_setRow hHeld.2.2 (by omega) _⟩
     clear hc1
     generalize World.setRow x5 gB #[.bool (q.f0 != 0), .int .i64 q.f0, .bool (q.f1 != -1), .int .i64 q.f1] = x6 at hHeld2 GA GB ⊢
     refine hK.out _ _ hHeld2 (fun hHeld' => ?_)
     clear hHeld2
     clear hK K hHeld; have hHeld := hHeld'; clear hHeld'
     try simp only [ptl]
     refine wpAnyH_done (by kernel_rfl) ?_ _
     go_wp2_with fail
     go_meet
     exact ⟨gA, gB, rfl, rfl, GA, GB, hHeld.1, hHeld.2.1, by omega, LA, LB, hHeld.2.2⟩
    refine AllReadyH.cons (o := ⟨some 6, _, _, _, _, _⟩) rfl (fun K hK => ?_) ?_
    ·
     go_simp
     have GB := box_new (x2) 146 #[.bool false, .int .i64 0, .bool false, .int .i64 0]
     have hb1 := (Below.refl (x2).heap.size (x2)).alloc (Nat.le_refl _) (.cells #[.bool false, .int .i64 0, .bool false, .int .i64 0] 146)
     have LB : w.heap.size + 2 ≤ (x2).heap.size := by have := (hHeld.1).lt; have := (hHeld.2.1).lt; have := (hHeld.2.2).size; omega
     generalize (x2).alloc (.cells #[.bool false, .int .i64 0, .bool false, .int .i64 0] 146) = x3 at hb1 GB  ⊢
     generalize hg : (x2).heap.size = gB at GB LB  ⊢
     clear hg
     refine hK.out _ _ ⟨hHeld.1.new hb1, hHeld.2.1.new hb1, below_trans hHeld.2.2 hb1 (Nat.le_refl _)⟩ (fun hHeld' => ?_)
     clear hK K hHeld hb1; have hHeld := hHeld'; clear hHeld'
     try simp only [ptl]
     refine rd1 (i := 4) (o := ⟨some 5, _, _, _, _, _⟩) rfl (fun K hK => ?_)
     go_simp
     have GA := box_new (x3) 146 #[.bool false, .int .i64 0, .bool false, .int .i64 0]
     have hb1 := (Below.refl (x3).heap.size (x3)).alloc (Nat.le_refl _) (.cells #[.bool false, .int .i64 0, .bool false, .int .i64 0] 146)
     have LA : w.heap.size + 2 ≤ (x3).heap.size := by have := (hHeld.1).lt; have := (hHeld.2.1).lt; have := (hHeld.2.2).size; omega
     have NBA : gB < (x3).heap.size := GB.lt
     replace GB := GB.new hb1
     generalize (x3).alloc (.cells #[.bool false, .int .i64 0, .bool false, .int .i64 0] 146) = x4 at hb1 GA GB ⊢
     generalize hg : (x3).heap.size = gA at GA LA NBA ⊢
     clear hg
     refine hK.out _ _ ⟨hHeld.1.new hb1, hHeld.2.1.new hb1, below_trans hHeld.2.2 hb1 (Nat.le_refl _)⟩ (fun hHeld' => ?_)
     clear hK K hHeld hb1; have hHeld := hHeld'; clear hHeld'
     try simp only [ptl]
     refine rd1 (i := 6) (o := ⟨none, _, _, _, _, _⟩) rfl (fun K hK => ?_)
     rw [if_pos (by rfl)]
     refine wp_store_row 146 _ _ rfl gA #[.bool (p.f0 != 0), .int .i64 p.f0, .bool (p.f1 != -1), .int .i64 p.f1] rfl rfl 146 _ GA (by kernel_rfl) (by kernel_rfl) (by kernel_rfl) ?_
     replace GB := box_far (cs := #[.bool (p.f0 != 0), .int .i64 p.f0, .bool (p.f1 != -1), .int .i64 p.f1]) (g := gA) GB (by omega)
     replace GA := box_row (cs := #[.bool (p.f0 != 0), .int .i64 p.f0, .bool (p.f1 != -1), .int .i64 p.f1]) GA
     have hc1 := chg_row x4 gA #[.bool (p.f0 != 0), .int .i64 p.f0, .bool (p.f1 != -1), .int .i64 p.f1]
     have hHeld2 : BoxAt (World.setRow x4 gA #[.bool (p.f0 != 0), .int .i64 p.f0, .bool (p.f1 != -1), .int .i64 p.f1]) w.heap.size 33 #[.int .i64 p.f0, .int .i64 p.f1] ∧ BoxAt (World.setRow x4 gA #[.bool (p.f0 != 0), .int .i64 p.f0, .bool (p.f1 != -1), .int .i64 p.f1]) (w.heap.size + 1) 33 #[.int .i64 q.f0, .int .i64 q.f1] ∧ Below w.heap.size w (World.setRow x4 gA #[.bool (p.f0 != 0), .int .i64 p.f0, .bool (p.f1 != -1), .int .i64 p.f1]) := ⟨hHeld.1.chg hc1 (by omega), hHeld.2.1.chg hc1 (by omega), below_setRow hHeld.2.2 (by omega) _⟩
     clear hc1
     generalize World.setRow x4 gA #[.bool (p.f0 != 0), .int .i64 p.f0, .bool (p.f1 != -1), .int .i64 p.f1] = x5 at hHeld2 GB GA ⊢
     refine hK.out _ _ hHeld2 (fun hHeld' => ?_)
     clear hHeld2
     clear hK K hHeld; have hHeld := hHeld'; clear hHeld'
     try simp only [ptl]
     refine rd1 (i := 7) (o := ⟨none, _, _, _, _, _⟩) rfl (fun K hK => ?_)
     rw [if_pos (by rfl)]
     refine wp_store_row 146 _ _ rfl gB #[.bool (q.f0 != 0), .int .i64 q.f0, .bool (q.f1 != -1), .int .i64 q.f1] rfl rfl 146 _ GB (by kernel_rfl) (by kernel_rfl) (by kernel_rfl) ?_
     replace GB := box_row (cs := #[.bool (q.f0 != 0), .int .i64 q.f0, .bool (q.f1 != -1), .int .i64 q.f1]) GB
     replace GA := box_far (cs := #[.bool (q.f0 != 0), .int .i64 q.f0, .bool (q.f1 != -1), .int .i64 q.f1]) (g := gB) GA (by omega)
     have hc1 := chg_row x5 gB #[.bool (q.f0 != 0), .int .i64 q.f0, .bool (q.f1 != -1), .int .i64 q.f1]
     have hHeld2 : BoxAt (World.setRow x5 gB #[.bool (q.f0 != 0), .int .i64 q.f0, .bool (q.f1 != -1), .int .i64 q.f1]) w.heap.size 33 #[.int .i64 p.f0, .int .i64 p.f1] ∧ BoxAt (World.setRow x5 gB #[.bool (q.f0 != 0), .int .i64 q.f0, .bool (q.f1 != -1), .int .i64 q.f1]) (w.heap.size + 1) 33 #[.int .i64 q.f0, .int .i64 q.f1] ∧ Below w.heap.size w (World.setRow x5 gB #[.bool (q.f0 != 0), .int .i64 q.f0, .bool (q.f1 != -1), .int .i64 q.f1]) := ⟨hHeld.1.chg hc1 (by omega), hHeld.2.1.chg hc1 (by omega), below_setRow hHeld.2.2 (by omega) _⟩
     clear hc1
     generalize World.setRow x5 gB #[.bool (q.f0 != 0), .int .i64 q.f0, .bool (q.f1 != -1), .int .i64 q.f1] = x6 at hHeld2 GB GA ⊢
     refine hK.out _ _ hHeld2 (fun hHeld' => ?_)
     clear hHeld2
     clear hK K hHeld; have hHeld := hHeld'; clear hHeld'
     try simp only [ptl]
     refine wpAnyH_done (by kernel_rfl) ?_ _
     go_wp2_with fail
     go_meet
     exact ⟨gA, gB, rfl, rfl, GA, GB, hHeld.1, hHeld.2.1, by omega, LA, LB, hHeld.2.2⟩
    exact AllReadyH.nil
   refine AllReadyH.cons (o := ⟨some 5, _, _, _, _, _⟩) rfl (fun K hK => ?_) ?_
   ·
    go_simp
    have GA := box_new (x1) 146 #[.bool false, .int .i64 0, .bool false, .int .i64 0]
    have hb1 := (Below.refl (x1).heap.size (x1)).alloc (Nat.le_refl _) (.cells #[.bool false, .int .i64 0, .bool false, .int .i64 0] 146)
    have LA : w.heap.size + 2 ≤ (x1).heap.size := by have := (hHeld.1).lt; have := (hHeld.2.1).lt; have := (hHeld.2.2).size; omega
    generalize (x1).alloc (.cells #[.bool false, .int .i64 0, .bool false, .int .i64 0] 146) = x2 at hb1 GA  ⊢
    generalize hg : (x1).heap.size = gA at GA LA  ⊢
    clear hg
    refine hK.out _ _ ⟨hHeld.1.new hb1, hHeld.2.1.new hb1, below_trans hHeld.2.2 hb1 (Nat.le_refl _)⟩ (fun hHeld' => ?_)
    clear hK K hHeld hb1; have hHeld := hHeld'; clear hHeld'
    try simp only [ptl]
    refine wpAnyH_ready (rs := [3, 5]) (by kernel_rfl) (by simp) ?_
    refine AllReadyH.cons (o := ⟨some 10, _, _, _, _, _⟩) rfl (fun K hK => ?_) ?_
    ·
     go_simp
     refine Calls.mono (impl_scopeOf q _) ?_
     rintro e x3 ⟨rfl, hb1⟩
     replace GA := GA.new hb1
     refine hK.out _ _ ⟨hHeld.1.new hb1, hHeld.2.1.new hb1, below_trans hHeld.2.2 hb1 (Nat.le_refl _)⟩ (fun hHeld' => ?_)
     clear hK K hHeld hb1; have hHeld := hHeld'; clear hHeld'
     try simp only [ptl]
     refine rd1 (i := 5) (o := ⟨some 6, _, _, _, _, _⟩) rfl (fun K hK => ?_)
     go_simp
     have GB := box_new (x3) 146 #[.bool false, .int .i64 0, .bool false, .int .i64 0]
     have hb1 := (Below.refl (x3).heap.size (x3)).alloc (Nat.le_refl _) (.cells #[.bool false, .int .i64 0, .bool false, .int .i64 0] 146)
     have LB : w.heap.size + 2 ≤ (x3).heap.size := by have := (hHeld.1).lt; have := (hHeld.2.1).lt; have := (hHeld.2.2).size; omega
     have NAB : gA < (x3).heap.size := GA.lt
     replace GA := GA.new hb1
     generalize (x3).alloc (.cells #[.bool false, .int .i64 0, .bool false, .int .i64 0] 146) = x4 at hb1 GB GA ⊢
     generalize hg : (x3).heap.size = gB at GB LB NAB ⊢
     clear hg
     refine hK.out _ _ ⟨hHeld.1.new hb1, hHeld.2.1.new hb1, below_trans hHeld.2.2 hb1 (Nat.le_refl _)⟩ (fun hHeld' => ?_)
     clear hK K hHeld hb1; have hHeld := hHeld'; clear hHeld'
     try simp only [ptl]
     refine rd1 (i := 6) (o := ⟨none, _, _, _, _, _⟩) rfl (fun K hK => ?_)
     rw [if_pos (by rfl)]
     refine wp_store_row 146 _ _ rfl gA #[.bool (p.f0 != 0), .int .i64 p.f0, .bool (p.f1 != -1), .int .i64 p.f1] rfl rfl 146 _ GA (by kernel_rfl) (by kernel_rfl) (by kernel_rfl) ?_
     replace GA := box_row (cs := #[.bool (p.f0 != 0), .int .i64 p.f0, .bool (p.f1 != -1), .int .i64 p.f1]) GA
     replace GB := box_far (cs := #[.bool (p.f0 != 0), .int .i64 p.f0, .bool (p.f1 != -1), .int .i64 p.f1]) (g := gA) GB (by omega)
     have hc1 := chg_row x4 gA #[.bool (p.f0 != 0), .int .i64 p.f0, .bool (p.f1 != -1), .int .i64 p.f1]
     have hHeld2 : BoxAt (World.setRow x4 gA #[.bool (p.f0 != 0), .int .i64 p.f0, .bool (p.f1 != -1), .int .i64 p.f1]) w.heap.size 33 #[.int .i64 p.f0, .int .i64 p.f1] ∧ BoxAt (World.setRow x4 gA #[.bool (p.f0 != 0), .int .i64 p.f0, .bool (p.f1 != -1), .int .i64 p.f1]) (w.heap.size + 1) 33 #[.int .i64 q.f0, .int .i64 q.f1] ∧ Below w.heap.size w (World.setRow x4 gA #[.bool (p.f0 != 0), .int .i64 p.f0, .bool (p.f1 != -1), .int .i64 p.f1]) := ⟨hHeld.1.chg hc1 (by omega), hHeld.2.1.chg hc1 (by omega), below_setRow hHeld.2.2 (by omega) _⟩
     clear hc1
     generalize World.setRow x4 gA #[.bool (p.f0 != 0), .int .i64 p.f0, .bool (p.f1 != -1), .int .i64 p.f1] = x5 at hHeld2 GA GB ⊢
     refine hK.out _ _ hHeld2 (fun hHeld' => ?_)
     clear hHeld2
     clear hK K hHeld; have hHeld := hHeld'; clear hHeld'
     try simp only [ptl]
     refine rd1 (i := 7) (o := ⟨none, _, _, _, _, _⟩) rfl (fun K hK => ?_)
     rw [if_pos (by rfl)]
     refine wp_store_row 146 _ _ rfl gB #[.bool (q.f0 != 0), .int .i64 q.f0, .bool (q.f1 != -1), .int .i64 q.f1] rfl rfl 146 _ GB (by kernel_rfl) (by kernel_rfl) (by kernel_rfl) ?_
     replace GA := box_far (cs := #[.bool (q.f0 != 0), .int .i64 q.f0, .bool (q.f1 != -1), .int .i64 q.f1]) (g := gB) GA (by omega)
     replace GB := box_row (cs := #[.bool (q.f0 != 0), .int .i64 q.f0, .bool (q.f1 != -1), .int .i64 q.f1]) GB
     have hc1 := chg_row x5 gB #[.bool (q.f0 != 0), .int .i64 q.f0, .bool (q.f1 != -1), .int .i64 q.f1]
     have hHeld2 : BoxAt (World.setRow x5 gB #[.bool (q.f0 != 0), .int .i64 q.f0, .bool (q.f1 != -1), .int .i64 q.f1]) w.heap.size 33 #[.int .i64 p.f0, .int .i64 p.f1] ∧ BoxAt (World.setRow x5 gB #[.bool (q.f0 != 0), .int .i64 q.f0, .bool (q.f1 != -1), .int .i64 q.f1]) (w.heap.size + 1) 33 #[.int .i64 q.f0, .int .i64 q.f1] ∧ Below w.heap.size w (World.setRow x5 gB #[.bool (q.f0 != 0), .int .i64 q.f0, .bool (q.f1 != -1), .int .i64 q.f1]) := ⟨hHeld.1.chg hc1 (by omega), hHeld.2.1.chg hc1 (by omega), below_setRow hHeld.2.2 (by omega) _⟩
     clear hc1
     generalize World.setRow x5 gB #[.bool (q.f0 != 0), .int .i64 q.f0, .bool (q.f1 != -1), .int .i64 q.f1] = x6 at hHeld2 GA GB ⊢
     refine hK.out _ _ hHeld2 (fun hHeld' => ?_)
     clear hHeld2
     clear hK K hHeld; have hHeld := hHeld'; clear hHeld'
     try simp only [ptl]
     refine wpAnyH_done (by kernel_rfl) ?_ _
     go_wp2_with fail
     go_meet
     exact ⟨gA, gB, rfl, rfl, GA, GB, hHeld.1, hHeld.2.1, by omega, LA, LB, hHeld.2.2⟩
    refine AllReadyH.cons (o := ⟨some 6, _, _, _, _, _⟩) rfl (fun K hK => ?_) ?_
    ·
     go_simp
     have GB := box_new (x2) 146 #[.bool false, .int .i64 0, .bool false, .int .i64 0]
     have hb1 := (Below.refl (x2).heap.size (x2)).alloc (Nat.le_refl _) (.cells #[.bool false, .int .i64 0, .bool false, .int .i64 0] 146)
     have LB : w.heap.size + 2 ≤ (x2).heap.size := by have := (hHeld.1).lt; have := (hHeld.2.1).lt; have := (hHeld.2.2).size; omega
     have NAB : gA < (x2).heap.size := GA.lt
     replace GA := GA.new hb1
     generalize (x2).alloc (.cells #[.bool false, .int .i64 0, .bool false, .int .i64 0] 146) = x3 at hb1 GB GA ⊢
     generalize hg : (x2).heap.size = gB at GB LB NAB ⊢
     clear hg
     refine hK.out _ _ ⟨hHeld.1.new hb1, hHeld.2.1.new hb1, below_trans hHeld.2.2 hb1 (Nat.le_refl _)⟩ (fun hHeld' => ?_)
     clear hK K hHeld hb1; have hHeld := hHeld'; clear hHeld'
     try simp only [ptl]
     refine rd1 (i := 3) (o := ⟨some 10, _, _, _, _, _⟩) rfl (fun K hK => ?_)
     go_simp
     refine Calls.mono (impl_scopeOf q _) ?_
     rintro e x4 ⟨rfl, hb1⟩
     replace GA := GA.new hb1
     replace GB := GB.new hb1
     refine hK.out _ _ ⟨hHeld.1.new hb1, hHeld.2.1.new hb1, below_trans hHeld.2.2 hb1 (Nat.le_refl _)⟩ (fun hHeld' => ?_)
     clear hK K hHeld hb1; have hHeld := hHeld'; clear hHeld'
     try simp only [ptl]
     refine rd1 (i := 6) (o := ⟨none, _, _, _, _, _⟩) rfl (fun K hK => ?_)
     rw [if_pos (by rfl)]
     refine wp_store_row 146 _ _ rfl gA #[.bool (p.f0 != 0), .int .i64 p.f0, .bool (p.f1 != -1), .int .i64 p.f1] rfl rfl 146 _ GA (by kernel_rfl) (by kernel_rfl) (by kernel_rfl) ?_
     replace GA := box_row (cs := #[.bool (p.f0 != 0), .int .i64 p.f0, .bool (p.f1 != -1), .int .i64 p.f1]) GA
     replace GB := box_far (cs := #[.bool (p.f0 != 0), .int .i64 p.f0, .bool (p.f1 != -1), .int .i64 p.f1]) (g := gA) GB (by omega)
     have hc1 := chg_row x4 gA #[.bool (p.f0 != 0), .int .i64 p.f0, .bool (p.f1 != -1), .int .i64 p.f1]
     have hHeld2 : BoxAt (World.setRow x4 gA #[.bool (p.f0 != 0), .int .i64 p.f0, .bool (p.f1 != -1), .int .i64 p.f1]) w.heap.size 33 #[.int .i64 p.f0, .int .i64 p.f1] ∧ BoxAt (World.setRow x4 gA #[.bool (p.f0 != 0), .int .i64 p.f0, .bool (p.f1 != -1), .int .i64 p.f1]) (w.heap.size + 1) 33 #[.int .i64 q.f0, .int .i64 q.f1] ∧ Below w.heap.size w (World.setRow x4 gA #[.bool (p.f0 != 0), .int .i64 p.f0, .bool (p.f1 != -1), .int .i64 p.f1]) := ⟨hHeld.1.chg hc1 (by omega), hHeld.2.1.chg hc1 (by omega), below_setRow hHeld.2.2 (by omega) _⟩
     clear hc1
     generalize World.setRow x4 gA #[.bool (p.f0 != 0), .int .i64 p.f0, .bool (p.f1 != -1), .int .i64 p.f1] = x5 at hHeld2 GA GB ⊢
     refine hK.out _ _ hHeld2 (fun hHeld' => ?_)
     clear hHeld2
     clear hK K hHeld; have hHeld := hHeld'; clear hHeld'
     try simp only [ptl]
     refine rd1 (i := 7) (o := ⟨none, _, _, _, _, _⟩) rfl (fun K hK => ?_)
     rw [if_pos (by rfl)]
     refine wp_store_row 146 _ _ rfl gB #[.bool (q.f0 != 0), .int .i64 q.f0, .bool (q.f1 != -1), .int .i64 q.f1] rfl rfl 146 _ GB (by kernel_rfl) (by kernel_rfl) (by kernel_rfl) ?_
     replace GA := box_far (cs := #[.bool (q.f0 != 0), .int .i64 q.f0, .bool (q.f1 != -1), .int .i64 q.f1]) (g := gB) GA (by omega)
     replace GB := box_row (cs := #[.bool (q.f0 != 0), .int .i64 q.f0, .bool (q.f1 != -1), .int .i64 q.f1]) GB
     have hc1 := chg_row x5 gB #[.bool (q.f0 != 0), .int .i64 q.f0, .bool (q.f1 != -1), .int .i64 q.f1]
     have hHeld2 : BoxAt (World.setRow x5 gB #[.bool (q.f0 != 0), .int .i64 q.f0, .bool (q.f1 != -1), .int .i64 q.f1]) w.heap.size 33 #[.int .i64 p.f0, .int .i64 p.f1] ∧ BoxAt (World.setRow x5 gB #[.bool (q.f0 != 0), .int .i64 q.f0, .bool (q.f1 != -1), .int .i64 q.f1]) (w.heap.size + 1) 33 #[.int .i64 q.f0, .int .i64 q.f1] ∧ Below w.heap.size w (World.setRow x5 gB #[.bool (q.f0 != 0), .int .i64 q.f0, .bool (q.f1 != -1), .int .i64 q.f1]) := ⟨hHeld.1.chg hc1 (by omega), hHeld.2.1.chg hc1 (by omega), below_setRow hHeld.2.2 (by omega) _⟩
     clear hc1
     generalize World.setRow x5 gB #[.bool (q.f0 != 0), .int .i64 q.f0, .bool (q.f1 != -1), .int .i64 q.f1] = x6 at hHeld2 GA GB ⊢
     refine hK.out _ _ hHeld2 (fun hHeld' => ?_)
     clear hHeld2
     clear hK K hHeld; have hHeld := hHeld'; clear hHeld'
     try simp only [ptl]
     refine wpAnyH_done (by kernel_rfl) ?_ _
     go_wp2_with fail
     go_meet
     exact ⟨gA, gB, rfl, rfl, GA, GB, hHeld.1, hHeld.2.1, by omega, LA, LB, hHeld.2.2⟩
    exact AllReadyH.nil
   refine AllReadyH.cons (o := ⟨some 6, _, _, _, _, _⟩) rfl (fun K hK => ?_) ?_
   ·
    go_simp
    have GB := box_new (x1) 146 #[.bool false, .int .i64 0, .bool false, .int .i64 0]
    have hb1 := (Below.refl (x1).heap.size (x1)).alloc (Nat.le_refl _) (.cells #[.bool false, .int .i64 0, .bool false, .int .i64 0] 146)
    have LB : w.heap.size + 2 ≤ (x1).heap.size := by have := (hHeld.1).lt; have := (hHeld.2.1).lt; have := (hHeld.2.2).size; omega
    generalize (x1).alloc (.cells #[.bool false, .int .i64 0, .bool false, .int .i64 0] 146) = x2 at hb1 GB  ⊢
    generalize hg : (x1).heap.size = gB at GB LB  ⊢
    clear hg
    refine hK.out _ _ ⟨hHeld.1.new hb1, hHeld.2.1.new hb1, below_trans hHeld.2.2 hb1 (Nat.le_refl _)⟩ (fun hHeld' => ?_)
    clear hK K hHeld hb1; have hHeld := hHeld'; clear hHeld'
    try simp only [ptl]
    refine wpAnyH_ready (rs := [3, 4]) (by kernel_rfl) (by simp) ?_
    refine AllReadyH.cons (o := ⟨some 10, _, _, _, _, _⟩) rfl (fun K hK => ?_) ?_
    ·
     go_simp
     refine Calls.mono (impl_scopeOf q _) ?_
     rintro e x3 ⟨rfl, hb1⟩
     replace GB := GB.new hb1
     refine hK.out _ _ ⟨hHeld.1.new hb1, hHeld.2.1.new hb1, below_trans hHeld.2.2 hb1 (Nat.le_refl _)⟩ (fun hHeld' => ?_)
     clear hK K hHeld hb1; have hHeld := hHeld'; clear hHeld'
     try simp only [ptl]
     refine rd1 (i := 4) (o := ⟨some 5, _, _, _, _, _⟩) rfl (fun K hK => ?_)
     go_simp
     have GA := box_new (x3) 146 #[.bool false, .int .i64 0, .bool false, .int .i64 0]
     have hb1 := (Below.refl (x3).heap.size (x3)).alloc (Nat.le_refl _) (.cells #[.bool false, .int .i64 0, .bool false, .int .i64 0] 146)
     have LA : w.heap.size + 2 ≤ (x3).heap.size := by have := (hHeld.1).lt; have := (hHeld.2.1).lt; have := (hHeld.2.2).size; omega
     have NBA : gB < (x3).heap.size := GB.lt
     replace GB := GB.new hb1
     generalize (x3).alloc (.cells #[.bool false, .int .i64 0, .bool false, .int .i64 0] 146) = x4 at hb1 GA GB ⊢
     generalize hg : (x3).heap.size = gA at GA LA NBA ⊢
     clear hg
     refine hK.out _ _ ⟨hHeld.1.new hb1, hHeld.2.1.new hb1, below_trans hHeld.2.2 hb1 (Nat.le_refl _)⟩ (fun hHeld' => ?_)
     clear hK K hHeld hb1; have hHeld := hHeld'; clear hHeld'
     try simp only [ptl]
     refine rd1 (i := 6) (o := ⟨none, _, _, _, _, _⟩) rfl (fun K hK => ?_)
     rw [if_pos (by rfl)]
     refine wp_store_row 146 _ _ rfl gA #[.bool (p.f0 != 0), .int .i64 p.f0, .bool (p.f1 != -1), .int .i64 p.f1] rfl rfl 146 _ GA (by kernel_rfl) (by kernel_rfl) (by kernel_rfl) ?_
     replace GB := box_far (cs := #[.bool (p.f0 != 0), .int .i64 p.f0, .bool (p.f1 != -1), .int .i64 p.f1]) (g := gA) GB (by omega)
     replace GA := box_row (cs := #[.bool (p.f0 != 0), .int .i64 p.f0, .bool (p.f1 != -1), .int .i64 p.f1]) GA
     have hc1 := chg_row x4 gA #[.bool (p.f0 != 0), .int .i64 p.f0, .bool (p.f1 != -1), .int .i64 p.f1]
     have hHeld2 : BoxAt (World.setRow x4 gA #[.bool (p.f0 != 0), .int .i64 p.f0, .bool (p.f1 != -1), .int .i64 p.f1]) w.heap.size 33 #[.int .i64 p.f0, .int .i64 p.f1] ∧ BoxAt (World.setRow x4 gA #[.bool (p.f0 != 0), .int .i64 p.f0, .bool (p.f1 != -1), .int .i64 p.f1]) (w.heap.size + 1) 33 #[.int .i64 q.f0, .int .i64 q.f1] ∧ Below w.heap.size w (World.setRow x4 gA #[.bool (p.f0 != 0), .int .i64 p.f0, .bool (p.f1 != -1), .int .i64 p.f1]) := ⟨hHeld.1.chg hc1 (by omega), hHeld.2.1.chg hc1 (by omega), below_setRow hHeld.2.2 (by omega) _⟩
     clear hc1
     generalize World.setRow x4 gA #[.bool (p.f0 != 0), .int .i64 p.f0, .bool (p.f1 != -1), .int .i64 p.f1] = x5 at hHeld2 GB GA ⊢
     refine hK.out _ _ hHeld2 (fun hHeld' => ?_)
     clear hHeld2
     clear hK K hHeld; have hHeld := hHeld'; clear hHeld'
     try simp only [ptl]
     refine rd1 (i := 7) (o := ⟨none, _, _, _, _, _⟩) rfl (fun K hK => ?_)
     rw [if_pos (by rfl)]
     refine wp_store_row 146 _ _ rfl gB #[.bool (q.f0 != 0), .int .i64 q.f0, .bool (q.f1 != -1), .int .i64 q.f1] rfl rfl 146 _ GB (by kernel_rfl) (by kernel_rfl) (by kernel_rfl) ?_
     replace GB := box_row (cs := #[.bool (q.f0 != 0), .int .i64 q.f0, .bool (q.f1 != -1), .int .i64 q.f1]) GB
     replace GA := box_far (cs := #[.bool (q.f0 != 0), .int .i64 q.f0, .bool (q.f1 != -1), .int .i64 q.f1]) (g := gB) GA (by omega)
     have hc1 := chg_row x5 gB #[.bool (q.f0 != 0), .int .i64 q.f0, .bool (q.f1 != -1), .int .i64 q.f1]
     have hHeld2 : BoxAt (World.setRow x5 gB #[.bool (q.f0 != 0), .int .i64 q.f0, .bool (q.f1 != -1), .int .i64 q.f1]) w.heap.size 33 #[.int .i64 p.f0, .int .i64 p.f1] ∧ BoxAt (World.setRow x5 gB #[.bool (q.f0 != 0), .int .i64 q.f0, .bool (q.f1 != -1), .int .i64 q.f1]) (w.heap.size + 1) 33 #[.int .i64 q.f0, .int .i64 q.f1] ∧ Below w.heap.size w (World.setRow x5 gB #[.bool (q.f0 != 0), .int .i64 q.f0, .bool (q.f1 != -1), .int .i64 q.f1]) := ⟨hHeld.1.chg hc1 (by omega), hHeld.2.1.chg hc1 (by omega), below_setRow hHeld.2.2 (by omega) _⟩
     clear hc1
     generalize World.setRow x5 gB #[.bool (q.f0 != 0), .int .i64 q.f0, .bool (q.f1 != -1), .int .i64 q.f1] = x6 at hHeld2 GB GA ⊢
     refine hK.out _ _ hHeld2 (fun hHeld' => ?_)
     clear hHeld2
     clear hK K hHeld; have hHeld := hHeld'; clear hHeld'
     try simp only [ptl]
     refine wpAnyH_done (by kernel_rfl) ?_ _
     go_wp2_with fail
     go_meet
     exact ⟨gA, gB, rfl, rfl, GA, GB, hHeld.1, hHeld.2.1, by omega, LA, LB, hHeld.2.2⟩
    refine AllReadyH.cons (o := ⟨some 5, _, _, _, _, _⟩) rfl (fun K hK => ?_) ?_
    ·
     go_simp
     have GA := box_new (x2) 146 #[.bool false, .int .i64 0, .bool false, .int .i64 0]
     have hb1 := (Below.refl (x2).heap.size (x2)).alloc (Nat.le_refl _) (.cells #[.bool false, .int .i64 0, .bool false, .int .i64 0] 146)
     have LA : w.heap.size + 2 ≤ (x2).heap.size := by have := (hHeld.1).lt; have := (hHeld.2.1).lt; have := (hHeld.2.2).size; omega
     have NBA : gB < (x2).heap.size := GB.lt
     replace GB := GB.new hb1
     generalize (x2).alloc (.cells #[.bool false, .int .i64 0, .bool false, .int .i64 0] 146) = x3 at hb1 GA GB ⊢
     generalize hg : (x2).heap.size = gA at GA LA NBA ⊢
     clear hg
     refine hK.out _ _ ⟨hHeld.1.new hb1, hHeld.2.1.new hb1, below_trans hHeld.2.2 hb1 (Nat.le_refl _)⟩ (fun hHeld' => ?_)
     clear hK K hHeld hb1; have hHeld := hHeld'; clear hHeld'
     try simp only [ptl]
     refine rd1 (i := 3) (o := ⟨some 10, _, _, _, _, _⟩) rfl (fun K hK => ?_)
     go_simp
     refine Calls.mono (impl_scopeOf q _) ?_
     rintro e x4 ⟨rfl, hb1⟩
     replace GB := GB.new hb1
     replace GA := GA.new hb1
     refine hK.out _ _ ⟨hHeld.1.new hb1, hHeld.2.1.new hb1, below_trans hHeld.2.2 hb1 (Nat.le_refl _)⟩ (fun hHeld' => ?_)
     clear hK K hHeld hb1; have hHeld := hHeld'; clear hHeld'
     try simp only [ptl]
     refine rd1 (i := 6) (o := ⟨none, _, _, _, _, _⟩) rfl (fun K hK => ?_)
     rw [if_pos (by rfl)]
     refine wp_store_row 146 _ _ rfl gA #[.bool (p.f0 != 0), .int .i64 p.f0, .bool (p.f1 != -1), .int .i64 p.f1] rfl rfl 146 _ GA (by kernel_rfl) (by kernel_rfl) (by kernel_rfl) ?_
     replace GB := box_far (cs := #[.bool (p.f0 != 0), .int .i64 p.f0, .bool (p.f1 != -1), .int .i64 p.f1]) (g := gA) GB (by omega)
     replace GA := box_row (cs := #[.bool (p.f0 != 0), .int .i64 p.f0, .bool (p.f1 != -1), .int .i64 p.f1]) GA
     have hc1 := chg_row x4 gA #[.bool (p.f0 != 0), .int .i64 p.f0, .bool (p.f1 != -1), .int .i64 p.f1]
     have hHeld2 : BoxAt (World.setRow x4 gA #[.bool (p.f0 != 0), .int .i64 p.f0, .bool (p.f1 != -1), .int .i64 p.f1]) w.heap.size 33 #[.int .i64 p.f0, .int .i64 p.f1] ∧ BoxAt (World.setRow x4 gA #[.bool (p.f0 != 0), .int .i64 p.f0, .bool (p.f1 != -1), .int .i64 p.f1]) (w.heap.size + 1) 33 #[.int .i64 q.f0, .int .i64 q.f1] ∧ Below w.heap.size w (World.setRow x4 gA #[.bool (p.f0 != 0), .int .i64 p.f0, .bool (p.f1 != -1), .int .i64 p.f1]) := ⟨hHeld.1.chg hc1 (by omega), hHeld.2.1.chg hc1 (by omega), below_setRow hHeld.2.2 (by omega) _⟩
     clear hc1
     generalize World.setRow x4 gA #[.bool (p.f0 != 0), .int .i64 p.f0, .bool (p.f1 != -1), .int .i64 p.f1] = x5 at hHeld2 GB GA ⊢
     refine hK.out _ _ hHeld2 (fun hHeld' => ?_)
     clear hHeld2
     clear hK K hHeld; have hHeld := hHeld'; clear hHeld'
     try simp only [ptl]
     refine rd1 (i := 7) (o := ⟨none, _, _, _, _, _⟩) rfl (fun K hK => ?_)
     rw [if_pos (by rfl)]
     refine wp_store_row 146 _ _ rfl gB #[.bool (q.f0 != 0), .int .i64 q.f0, .bool (q.f1 != -1), .int .i64 q.f1] rfl rfl 146 _ GB (by kernel_rfl) (by kernel_rfl) (by kernel_rfl) ?_
     replace GB := box_row (cs := #[.bool (q.f0 != 0), .int .i64 q.f0, .bool (q.f1 != -1), .int .i64 q.f1]) GB
     replace GA := box_far (cs := #[.bool (q.f0 != 0), .int .i64 q.f0, .bool (q.f1 != -1), .int .i64 q.f1]) (g := gB) GA (by omega)
     have hc1 := chg_row x5 gB #[.bool (q.f0 != 0), .int .i64 q.f0, .bool (q.f1 != -1), .int .i64 q.f1]
     have hHeld2 : BoxAt (World.setRow x5 gB #[.bool (q.f0 != 0), .int .i64 q.f0, .bool (q.f1 != -1), .int .i64 q.f1]) w.heap.size 33 #[.int .i64 p.f0, .int .i64 p.f1] ∧ BoxAt (World.setRow x5 gB #[.bool (q.f0 != 0), .int .i64 q.f0, .bool (q.f1 != -1), .int .i64 q.f1]) (w.heap.size + 1) 33 #[.int .i64 q.f0, .int .i64 q.f1] ∧ Below w.heap.size w (World.setRow x5 gB #[.bool (q.f0 != 0), .int .i64 q.f0, .bool (q.f1 != -1), .int .i64 q.f1]) := ⟨hHeld.1.chg hc1 (by omega), hHeld.2.1.chg hc1 (by omega), below_setRow hHeld.2.2 (by omega) _⟩
     clear hc1
     generalize World.setRow x5 gB #[.bool (q.f0 != 0), .int .i64 q.f0, .bool (q.f1 != -1), .int .i64 q.f1] = x6 at hHeld2 GB GA ⊢
     refine hK.out _ _ hHeld2 (fun hHeld' => ?_)
     clear hHeld2
     clear hK K hHeld; have hHeld := hHeld'; clear hHeld'
     try simp only [ptl]
     refine wpAnyH_done (by kernel_rfl) ?_ _
     go_wp2_with fail
     go_meet
     exact ⟨gA, gB, rfl, rfl, GA, GB, hHeld.1, hHeld.2.1, by omega, LA, LB, hHeld.2.2⟩
    exact AllReadyH.nil
   exact AllReadyH.nil
  refine AllReadyH.cons (o := ⟨some 5, _, _, _, _, _⟩) rfl (fun K hK => ?_) ?_
  ·
   go_simp
   have GA := box_new (x0) 146 #[.bool false, .int .i64 0, .bool false, .int .i64 0]
   have hb1 := (Below.refl (x0).heap.size (x0)).alloc (Nat.le_refl _) (.cells #[.bool false, .int .i64 0, .bool false, .int .i64 0] 146)
   have LA : w.heap.size + 2 ≤ (x0).heap.size := by have := (hHeld.1).lt; have := (hHeld.2.1).lt; have := (hHeld.2.2).size; omega
   generalize (x0).alloc (.cells #[.bool false, .int .i64 0, .bool false, .int .i64 0] 146) = x1 at hb1 GA  ⊢
   generalize hg : (x0).heap.size = gA at GA LA  ⊢
   clear hg
   refine hK.out _ _ ⟨hHeld.1.new hb1, hHeld.2.1.new hb1, below_trans hHeld.2.2 hb1 (Nat.le_refl _)⟩ (fun hHeld' => ?_)
   clear hK K hHeld hb1; have hHeld := hHeld'; clear hHeld'
   try simp only [ptl]
   refine wpAnyH_ready (rs := [1, 5]) (by kernel_rfl) (by simp) ?_
   refine AllReadyH.cons (o := ⟨some 8, _, _, _, _, _⟩) rfl (fun K hK => ?_) ?_
   ·
    go_simp
    refine Calls.mono (impl_scopeOf p _) ?_
    rintro e x2 ⟨rfl, hb1⟩
    replace GA := GA.new hb1
    refine hK.out _ _ ⟨hHeld.1.new hb1, hHeld.2.1.new hb1, below_trans hHeld.2.2 hb1 (Nat.le_refl _)⟩ (fun hHeld' => ?_)
    clear hK K hHeld hb1; have hHeld := hHeld'; clear hHeld'
    try simp only [ptl]
    refine wpAnyH_ready (rs := [3, 5]) (by kernel_rfl) (by simp) ?_
    refine AllReadyH.cons (o := ⟨some 10, _, _, _, _, _⟩) rfl (fun K hK => ?_) ?_
    ·
     go_simp
     refine Calls.mono (impl_scopeOf q _) ?_
     rintro e x3 ⟨rfl, hb1⟩
     replace GA := GA.new hb1
     refine hK.out _ _ ⟨hHeld.1.new hb1, hHeld.2.1.new hb1, below_trans hHeld.2.2 hb1 (Nat.le_refl _)⟩ (fun hHeld' => ?_)
     clear hK K hHeld hb1; have hHeld := hHeld'; clear hHeld'
     try simp only [ptl]
     refine rd1 (i := 5) (o := ⟨some 6, _, _, _, _, _⟩) rfl (fun K hK => ?_)
     go_simp
     have GB := box_new (x3) 146 #[.bool false, .int .i64 0, .bool false, .int .i64 0]
     have hb1 := (Below.refl (x3).heap.size (x3)).alloc (Nat.le_refl _) (.cells #[.bool false, .int .i64 0, .bool false, .int .i64 0] 146)
     have LB : w.heap.size + 2 ≤ (x3).heap.size := by have := (hHeld.1).lt; have := (hHeld.2.1).lt; have := (hHeld.2.2).size; omega
     have NAB : gA < (x3).heap.size := GA.lt
     replace GA := GA.new hb1
     generalize (x3).alloc (.cells #[.bool false, .int .i64 0, .bool false, .int .i64 0] 146) = x4 at hb1 GB GA ⊢
     generalize hg : (x3).heap.size = gB at GB LB NAB ⊢
     clear hg
     refine hK.out _ _ ⟨hHeld.1.new hb1, hHeld.2.1.new hb1, below_trans hHeld.2.2 hb1 (Nat.le_refl _)⟩ (fun hHeld' => ?_)
     clear hK K hHeld hb1; have hHeld := hHeld'; clear hHeld'
     try simp only [ptl]
     refine rd1 (i := 6) (o := ⟨none, _, _, _, _, _⟩) rfl (fun K hK => ?_)
     rw [if_pos (by rfl)]
     refine wp_store_row 146 _ _ rfl gA #[.bool (p.f0 != 0), .int .i64 p.f0, .bool (p.f1 != -1), .int .i64 p.f1] rfl rfl 146 _ GA (by kernel_rfl) (by kernel_rfl) (by kernel_rfl) ?_
     replace GA := box_row (cs := #[.bool (p.f0 != 0), .int .i64 p.f0, .bool (p.f1 != -1), .int .i64 p.f1]) GA
     replace GB := box_far (cs := #[.bool (p.f0 != 0), .int .i64 p.f0, .bool (p.f1 != -1), .int .i64 p.f1]) (g := gA) GB (by omega)
     have hc1 := chg_row x4 gA #[.bool (p.f0 != 0), .int .i64 p.f0, .bool (p.f1 != -1), .int .i64 p.f1]
     have hHeld2 : BoxAt (World.setRow x4 gA #[.bool (p.f0 != 0), .int .i64 p.f0, .bool (p.f1 != -1), .int .i64 p.f1]) w.heap.size 33 #[.int .i64 p.f0, .int .i64 p.f1] ∧ BoxAt (World.setRow x4 gA #[.bool (p.f0 != 0), .int .i64 p.f0, .bool (p.f1 != -1), .int .i64 p.f1]) (w.heap.size + 1) 33 #[.int .i64 q.f0, .int .i64 q.f1] ∧ Below w.heap.size w (World.setRow x4 gA #[.bool (p.f0 != 0), .int .i64 p.f0, .bool (p.f1 != -1), .int .i64 p.f1]) := ⟨hHeld.1.chg hc1 (by omega), hHeld.2.1.chg hc1 (by omega), below_setRow hHeld.2.2 (by omega) _⟩
     clear hc1
     generalize World.setRow x4 gA #[.bool (p.f0 != 0), .int .i64 p.f0, .bool (p.f1 != -1), .int .i64 p.f1] = x5 at hHeld2 GA GB ⊢
     refine hK.out _ _ hHeld2 (fun hHeld' => ?_)
     clear hHeld2
     clear hK K hHeld; have hHeld := hHeld'; clear hHeld'
     try simp only [ptl]
     refine rd1 (i := 7) (o := ⟨none, _, _, _, _, _⟩) rfl (fun K hK => ?_)
     rw [if_pos (by rfl)]
     refine wp_store_row 146 _ _ rfl gB #[.bool (q.f0 != 0), .int .i64 q.f0, .bool (q.f1 != -1), .int .i64 q.f1] rfl rfl 146 _ GB (by kernel_rfl) (by kernel_rfl) (by kernel_rfl) ?_
     replace GA := box_far (cs := #[.bool (q.f0 != 0), .int .i64 q.f0, .bool (q.f1 != -1), .int .i64 q.f1]) (g := gB) GA (by omega)
     replace GB := box_row (cs := #[.bool (q.f0 != 0), .int .i64 q.f0, .bool (q.f1 != -1), .int .i64 q.f1]) GB
     have hc1 := chg_row x5 gB #[.bool (q.f0 != 0), .int .i64 q.f0, .bool (q.f1 != -1), .int .i64 q.f1]
     have hHeld2 : BoxAt (World.setRow x5 gB #[.bool (q.f0 != 0), .int .i64 q.f0, .bool (q.f1 != -1), .int .i64 q.f1]) w.heap.size 33 #[.int .i64 p.f0, .int .i64 p.f1] ∧ BoxAt (World.setRow x5 gB #[.bool (q.f0 != 0), .int .i64 q.f0, .bool (q.f1 != -1), .int .i64 q.f1]) (w.heap.size + 1) 33 #[.int .i64 q.f0, .int .i64 q.f1] ∧ Below w.heap.size w (World.setRow x5 gB #[.bool (q.f0 != 0), .int .i64 q.f0, .bool (q.f1 != -1), .int .i64 q.f1]) := ⟨hHeld.1.chg hc1 (by omega), hHeld.2.1.chg hc1 (by omega), below_setRow hHeld.2.2 (by omega) _⟩
     clear hc1
     generalize World.setRow x5 gB #[.bool (q.f0 != 0), .int .i64 q.f0, .bool (q.f1 != -1), .int .i64 q.f1] = x6 at hHeld2 GA GB ⊢
     refine hK.out _ _ hHeld2 (fun hHeld' => ?_)
     clear hHeld2
     clear hK K hHeld; have hHeld := hHeld'; clear hHeld'
     try simp only [ptl]
     refine wpAnyH_done (by kernel_rfl) ?_ _
     go_wp2_with fail
     go_meet
     exact ⟨gA, gB, rfl, rfl, GA, GB, hHeld.1, hHeld.2.1, by omega, LA, LB, hHeld.2.2⟩
    refine AllReadyH.cons (o := ⟨some 6, _, _, _, _, _⟩) rfl (fun K hK => ?_) ?_
    ·
     go_simp
     have GB := box_new (x2) 146 #[.bool false, .int .i64 0, .bool false, .int .i64 0]
     have hb1 := (Below.refl (x2).heap.size (x2)).alloc (Nat.le_refl _) (.cells #[.bool false, .int .i64 0, .bool false, .int .i64 0] 146)
     have LB : w.heap.size + 2 ≤ (x2).heap.size := by have := (hHeld.1).lt; have := (hHeld.2.1).lt; have := (hHeld.2.2).size; omega
     have NAB : gA < (x2).heap.size := GA.lt
     replace GA := GA.new hb1
     generalize (x2).alloc (.cells #[.bool false, .int .i64 0, .bool false, .int .i64 0] 146) = x3 at hb1 GB GA ⊢
     generalize hg : (x2).heap.size = gB at GB LB NAB ⊢
     clear hg
     refine hK.out _ _ ⟨hHeld.1.new hb1, hHeld.2.1.new hb1, below_trans hHeld.2.2 hb1 (Nat.le_refl _)⟩ (fun hHeld' => ?_)
     clear hK K hHeld hb1; have hHeld := hHeld'; clear hHeld'
     try simp only [ptl]
     refine rd1 (i := 3) (o := ⟨some 10, _, _, _, _, _⟩) rfl (fun K hK => ?_)
     go_simp
     refine Calls.mono (impl_scopeOf q _) ?_
     rintro e x4 ⟨rfl, hb1⟩
     replace GA := GA.new hb1
     replace GB := GB.new hb1
     refine hK.out _ _ ⟨hHeld.1.new hb1, hHeld.2.1.new hb1, below_trans hHeld.2.2 hb1 (Nat.le_refl _)⟩ (fun hHeld' => ?_)
     clear hK K hHeld hb1; have hHeld := hHeld'; clear hHeld'
     try simp only [ptl]
     refine rd1 (i := 6) (o := ⟨none, _, _, _, _, _⟩) rfl (fun K hK => ?_)
     rw [if_pos (by rfl)]
     refine wp_store_row 146 _ _ rfl gA #[.bool (p.f0 != 0), .int .i64 p.f0, .bool (p.f1 != -1), .int .i64 p.f1] rfl rfl 146 _ GA (by kernel_rfl) (by kernel_rfl) (by kernel_rfl) ?_
     replace GA := box_row (cs := #[.bool (p.f0 != 0), .int .i64 p.f0, .bool (p.f1 != -1), .int .i64 p.f1]) GA
     replace GB := box_far (cs := #[.bool (p.f0 != 0), .int .i64 p.f0, .bool (p.f1 != -1), .int .i64 p.f1]) (g := gA) GB (by omega)
     have hc1 := chg_row x4 gA #[.bool (p.f0 != 0), .int .i64 p.f0, .bool (p.f1 != -1), .int .i64 p.f1]
     have hHeld2 : BoxAt (World.setRow x4 gA #[.bool (p.f0 != 0), .int .i64 p.f0, .bool (p.f1 != -1), .int .i64 p.f1]) w.heap.size 33 #[.int .i64 p.f0, .int .i64 p.f1] ∧ BoxAt (World.setRow x4 gA #[.bool (p.f0 != 0), .int .i64 p.f0, .bool (p.f1 != -1), .int .i64 p.f1]) (w.heap.size + 1) 33 #[.int .i64 q.f0, .int .i64 q.f1] ∧ Below w.heap.size w (World.setRow x4 gA #[.bool (p.f0 != 0), .int .i64 p.f0, .bool (p.f1 != -1), .int .i64 p.f1]) := ⟨hHeld.1.chg hc1 (by omega), hHeld.2.1.chg hc1 (by omega), below_setRow hHeld.2.2 (by omega) _⟩
     clear hc1
     generalize World.setRow x4 gA #[.bool (p.f0 != 0), .int .i64 p.f0, .bool (p.f1 != -1), .int .i64 p.f1] = x5 at hHeld2 GA GB ⊢
     refine hK.out _ _ hHeld2 (fun hHeld' => ?_)
     clear hHeld2
     clear hK K hHeld; have hHeld := hHeld'; clear hHeld'
     try simp only [ptl]
     refine rd1 (i := 7) (o := ⟨none, _, _, _, _, _⟩) rfl (fun K hK => ?_)
     rw [if_pos (by rfl)]
     refine wp_store_row 146 _ _ rfl gB #[.bool (q.f0 != 0), .int .i64 q.f0, .bool (q.f1 != -1), .int .i64 q.f1] rfl rfl 146 _ GB (by kernel_rfl) (by kernel_rfl) (by kernel_rfl) ?_
     replace GA := box_far (cs := #[.bool (q.f0 != 0), .int .i64 q.f0, .bool (q.f1 != -1), .int .i64 q.f1]) (g := gB) GA (by omega)
     replace GB := box_row (cs := #[.bool (q.f0 != 0), .int .i64 q.f0, .bool (q.f1 != -1), .int .i64 q.f1]) GB
     have hc1 := chg_row x5 gB #[.bool (q.f0 != 0), .int .i64 q.f0, .bool (q.f1 != -1), .int .i64 q.f1]
     have hHeld2 : BoxAt (World.setRow x5 gB #[.bool (q.f0 != 0), .int .i64 q.f0, .bool (q.f1 != -1), .int .i64 q.f1]) w.heap.size 33 #[.int .i64 p.f0, .int .i64 p.f1] ∧ BoxAt (World.setRow x5 gB #[.bool (q.f0 != 0), .int .i64 q.f0, .bool (q.f1 != -1), .int .i64 q.f1]) (w.heap.size + 1) 33 #[.int .i64 q.f0, .int .i64 q.f1] ∧ Below w.heap.size w (World.setRow x5 gB #[.bool (q.f0 != 0), .int .i64 q.f0, .bool (q.f1 != -1), .int .i64 q.f1]) := ⟨hHeld.1.chg hc1 (by omega), hHeld.2.1.chg hc1 (by omega), below_setRow hHeld.2.2 (by omega) _⟩
     clear hc1
     generalize World.setRow x5 gB #[.bool (q.f0 != 0), .int .i64 q.f0, .bool (q.f1 != -1), .int .i64 q.f1] = x6 at hHeld2 GA GB ⊢
     refine hK.out _ _ hHeld2 (fun hHeld' => ?_)
     clear hHeld2
     clear hK K hHeld; have hHeld := hHeld'; clear hHeld'
     try simp only [ptl]
     refine wpAnyH_done (by kernel_rfl) ?_ _
     go_wp2_with fail
     go_meet
     exact ⟨gA, gB, rfl, rfl, GA, GB, hHeld.1, hHeld.2.1, by omega, LA, LB, hHeld.2.2⟩
    exact AllReadyH.nil
   refine AllReadyH.cons (o := ⟨some 6, _, _, _, _, _⟩) rfl (fun K hK => ?_) ?_
   ·
    go_simp
    have GB := box_new (x1) 146 #[.bool false, .int .i64 0, .bool false, .int .i64 0]
    have hb1 := (Below.refl (x1).heap.size (x1)).alloc (Nat.le_refl _) (.cells #[.bool false, .int .i64 0, .bool false, .int .i64 0] 146)
    have LB : w.heap.size + 2 ≤ (x1).heap.size := by have := (hHeld.1).lt; have := (hHeld.2.1).lt; have := (hHeld.2.2).size; omega
    have NAB : gA < (x1).heap.size := GA.lt
    replace GA := GA.new hb1
    generalize (x1).alloc (.cells #[.bool false, .int .i64 0, .bool false, .int .i64 0] 146) = x2 at hb1 GB GA ⊢
    generalize hg : (x1).heap.size = gB at GB LB NAB ⊢
    clear hg
    refine hK.out _ _ ⟨hHeld.1.new hb1, hHeld.2.1.new hb1, below_trans hHeld.2.2 hb1 (Nat.le_refl _)⟩ (fun hHeld' => ?_)
    clear hK K hHeld hb1; have hHeld := hHeld'; clear hHeld'
    try simp only [ptl]
    refine rd1 (i := 1) (o := ⟨some 8, _, _, _, _, _⟩) rfl (fun K hK => ?_)
    go_simp
    refine Calls.mono (impl_scopeOf p _) ?_
    rintro e x3 ⟨rfl, hb1⟩
    replace GA := GA.new hb1
    replace GB := GB.new hb1
    refine hK.out _ _ ⟨hHeld.1.new hb1, hHeld.2.1.new hb1, below_trans hHeld.2.2 hb1 (Nat.le_refl _)⟩ (fun hHeld' => ?_)
    clear hK K hHeld hb1; have hHeld := hHeld'; clear hHeld'
    try simp only [ptl]
    refine rd1 (i := 3) (o := ⟨some 10, _, _, _, _, _⟩) rfl (fun K hK => ?_)
    go_simp
    refine Calls.mono (impl_scopeOf q _) ?_
    rintro e x4 ⟨rfl, hb1⟩
    replace GA := GA.new hb1
    replace GB := GB.new hb1
    refine hK.out _ _ ⟨hHeld.1.new hb1, hHeld.2.1.new hb1, below_trans hHeld.2.2 hb1 (Nat.le_refl _)⟩ (fun hHeld' => ?_)
    clear hK K hHeld hb1; have hHeld := hHeld'; clear hHeld'
    try simp only [ptl]
    refine rd1 (i := 6) (o := ⟨none, _, _, _, _, _⟩) rfl (fun K hK => ?_)
    rw [if_pos (by rfl)]
    refine wp_store_row 146 _ _ rfl gA #[.bool (p.f0 != 0), .int .i64 p.f0, .bool (p.f1 != -1), .int .i64 p.f1] rfl rfl 146 _ GA (by kernel_rfl) (by kernel_rfl) (by kernel_rfl) ?_
    replace GA := box_row (cs := #[.bool (p.f0 != 0), .int .i64 p.f0, .bool (p.f1 != -1), .int .i64 p.f1]) GA
    replace GB := box_far (cs := #[.bool (p.f0 != 0), .int .i64 p.f0, .bool (p.f1 != -1), .int .i64 p.f1]) (g := gA) GB (by omega)
    have hc1 := chg_row x4 gA #[.bool (p.f0 != 0), .int .i64 p.f0, .bool (p.f1 != -1), .int .i64 p.f1]
    have hHeld2 : BoxAt (World.setRow x4 gA #[.bool (p.f0 != 0), .int .i64 p.f0, .bool (p.f1 != -1), .int .i64 p.f1]) w.heap.size 33 #[.int .i64 p.f0, .int .i64 p.f1] ∧ BoxAt (World.setRow x4 gA #[.bool (p.f0 != 0), .int .i64 p.f0, .bool (p.f1 != -1), .int .i64 p.f1]) (w.heap.size + 1) 33 #[.int .i64 q.f0, .int .i64 q.f1] ∧ Below w.heap.size w (World.setRow x4 gA #[.bool (p.f0 != 0), .int .i64 p.f0, .bool (p.f1 != -1), .int .i64 p.f1]) := ⟨hHeld.1.chg hc1 (by omega), hHeld.2.1.chg hc1 (by omega), below_setRow hHeld.2.2 (by omega) _⟩
    clear hc1
    generalize World.setRow x4 gA #[.bool (p.f0 != 0), .int .i64 p.f0, .bool (p.f1 != -1), .int .i64 p.f1] = x5 at hHeld2 GA GB ⊢
    refine hK.out _ _ hHeld2 (fun hHeld' => ?_)
    clear hHeld2
    clear hK K hHeld; have hHeld := hHeld'; clear hHeld'
    try simp only [ptl]
    refine rd1 (i := 7) (o := ⟨none, _, _, _, _, _⟩) rfl (fun K hK => ?_)
    rw [if_pos (by rfl)]
    refine wp_store_row 146 _ _ rfl gB #[.bool (q.f0 != 0), .int .i64 q.f0, .bool (q.f1 != -1), .int .i64 q.f1] rfl rfl 146 _ GB (by kernel_rfl) (by kernel_rfl) (by kernel_rfl) ?_
    replace GA := box_far (cs := #[.bool (q.f0 != 0), .int .i64 q.f0, .bool (q.f1 != -1), .int .i64 q.f1]) (g := gB) GA (by omega)
    replace GB := box_row (cs := #[.bool (q.f0 != 0), .int .i64 q.f0, .bool (q.f1 != -1), .int .i64 q.f1]) GB
    have hc1 := chg_row x5 gB #[.bool (q.f0 != 0), .int .i64 q.f0, .bool (q.f1 != -1), .int .i64 q.f1]
    have hHeld2 : BoxAt (World.setRow x5 gB #[.bool (q.f0 != 0), .int .i64 q.f0, .bool (q.f1 != -1), .int .i64 q.f1]) w.heap.size 33 #[.int .i64 p.f0, .int .i64 p.f1] ∧ BoxAt (World.setRow x5 gB #[.bool (q.f0 != 0), .int .i64 q.f0, .bool (q.f1 != -1), .int .i64 q.f1]) (w.heap.size + 1) 33 #[.int .i64 q.f0, .int .i64 q.f1] ∧ Below w.heap.size w (World.setRow x5 gB #[.bool (q.f0 != 0), .int .i64 q.f0, .bool (q.f1 != -1), .int .i64 q.f1]) := ⟨hHeld.1.chg hc1 (by omega), hHeld.2.1.chg hc1 (by omega), below_setRow hHeld.2.2 (by omega) _⟩
    clear hc1
    generalize World.setRow x5 gB #[.bool (q.f0 != 0), .int .i64 q.f0, .bool (q.f1 != -1), .int .i64 q.f1] = x6 at hHeld2 GA GB ⊢
    refine hK.out _ _ hHeld2 (fun hHeld' => ?_)
    clear hHeld2
    clear hK K hHeld; have hHeld := hHeld'; clear hHeld'
    try simp only [ptl]
    refine wpAnyH_done (by kernel_rfl) ?_ _
    go_wp2_with fail
    go_meet
    exact ⟨gA, gB, rfl, rfl, GA, GB, hHeld.1, hHeld.2.1, by omega, LA, LB, hHeld.2.2⟩
   exact AllReadyH.nil
  refine AllReadyH.cons (o := ⟨some 6, _, _, _, _, _⟩) rfl (fun K hK => ?_) ?_
  ·
   go_simp
   have GB := box_new (x0) 146 #[.bool false, .int .i64 0, .bool false, .int .i64 0]
   have hb1 := (Below.refl (x0).heap.size (x0)).alloc (Nat.le_refl _) (.cells #[.bool false, .int .i64 0, .bool false, .int .i64 0] 146)
   have LB : w.heap.size + 2 ≤ (x0).heap.size := by have := (hHeld.1).lt; have := (hHeld.2.1).lt; have := (hHeld.2.2).size; omega
   generalize (x0).alloc (.cells #[.bool false, .int .i64 0, .bool false, .int .i64 0] 146) = x1 at hb1 GB  ⊢
   generalize hg : (x0).heap.size = gB at GB LB  ⊢
   clear hg
   refine hK.out _ _ ⟨hHeld.1.new hb1, hHeld.2.1.new hb1, below_trans hHeld.2.2 hb1 (Nat.le_refl _)⟩ (fun hHeld' => ?_)
   clear hK K hHeld hb1; have hHeld := hHeld'; clear hHeld'
   try simp only [ptl]
   refine wpAnyH_ready (rs := [1, 4]) (by kernel_rfl) (by simp) ?_
   refine AllReadyH.cons (o := ⟨some 8, _, _, _, _, _⟩) rfl (fun K hK => ?_) ?_
   ·
    go_simp
    refine Calls.mono (impl_scopeOf p _) ?_
    rintro e x2 ⟨rfl, hb1⟩
    replace GB := GB.new hb1
    refine hK.out _ _ ⟨hHeld.1.new hb1, hHeld.2.1.new hb1, below_trans hHeld.2.2 hb1 (Nat.le_refl _)⟩ (fun hHeld' => ?_)
    clear hK K hHeld hb1; have hHeld := hHeld'; clear hHeld'
    try simp only [ptl]
    refine wpAnyH_ready (rs := [3, 4]) (by kernel_rfl) (by simp) ?_
    refine AllReadyH.cons (o := ⟨some 10, _, _, _, _, _⟩) rfl (fun K hK => ?_) ?_
    ·
     go_simp
     refine Calls.mono (impl_scopeOf q _) ?_
     rintro e x3 ⟨rfl, hb1⟩
     replace GB := GB.new hb1
     refine hK.out _ _ ⟨hHeld.1.new hb1, hHeld.2.1.new hb1, below_trans hHeld.2.2 hb1 (Nat.le_refl _)⟩ (fun hHeld' => ?_)
     clear hK K hHeld hb1; have hHeld := hHeld'; clear hHeld'
     try simp only [ptl]
     refine rd1 (i := 4) (o := ⟨some 5, _, _, _, _, _⟩) rfl (fun K hK => ?_)
     go_simp
     have GA := box_new (x3) 146 #[.bool false, .int .i64 0, .bool false, .int .i64 0]
     have hb1 := (Below.refl (x3).heap.size (x3)).alloc (Nat.le_refl _) (.cells #[.bool false, .int .i64 0, .bool false, .int .i64 0] 146)
     have LA : w.heap.size + 2 ≤ (x3).heap.size := by have := (hHeld.1).lt; have := (hHeld.2.1).lt; have := (hHeld.2.2).size; omega
     have NBA : gB < (x3).heap.size := GB.lt
     replace GB := GB.new hb1
     generalize (x3).alloc (.cells #[.bool false, .int .i64 0, .bool false, .int .i64 0] 146) = x4 at hb1 GA GB ⊢
     generalize hg : (x3).heap.size = gA at GA LA NBA ⊢
     clear hg
     refine hK.out _ _ ⟨hHeld.1.new hb1, hHeld.2.1.new hb1, below_trans hHeld.2.2 hb1 (Nat.le_refl _)⟩ (fun hHeld' => ?_)
     clear hK K hHeld hb1; have hHeld := hHeld'; clear hHeld'
     try simp only [ptl]
     refine rd1 (i := 6) (o := ⟨none, _, _, _, _, _⟩) rfl (fun K hK => ?_)
     rw [if_pos (by rfl)]
     refine wp_store_row 146 _ _ rfl gA #[.bool (p.f0 != 0), .int .i64 p.f0, .bool (p.f1 != -1), .int .i64 p.f1] rfl rfl 146 _ GA (by kernel_rfl) (by kernel_rfl) (by kernel_rfl) ?_
     replace GB := box_far (cs := #[.bool (p.f0 != 0), .int .i64 p.f0, .bool (p.f1 != -1), .int .i64 p.f1]) (g := gA) GB (by omega)
     replace GA := box_row (cs := #[.bool (p.f0 != 0), .int .i64 p.f0, .bool (p.f1 != -1), .int .i64 p.f1]) GA
     have hc1 := chg_row x4 gA #[.bool (p.f0 != 0), .int .i64 p.f0, .bool (p.f1 != -1), .int .i64 p.f1]
     have hHeld2 : BoxAt (World.setRow x4 gA #[.bool (p.f0 != 0), .int .i64 p.f0, .bool (p.f1 != -1), .int .i64 p.f1]) w.heap.size 33 #[.int .i64 p.f0, .int .i64 p.f1] ∧ BoxAt (World.setRow x4 gA #[.bool (p.f0 != 0), .int .i64 p.f0, .bool (p.f1 != -1), .int .i64 p.f1]) (w.heap.size + 1) 33 #[.int .i64 q.f0, .int .i64 q.f1] ∧ Below w.heap.size w (World.setRow x4 gA #[.bool (p.f0 != 0), .int .i64 p.f0, .bool (p.f1 != -1), .int .i64 p.f1]) := ⟨hHeld.1.chg hc1 (by omega), hHeld.2.1.chg hc1 (by omega), below_setRow hHeld.2.2 (by omega) _⟩
     clear hc1
     generalize World.setRow x4 gA #[.bool (p.f0 != 0), .int .i64 p.f0, .bool (p.f1 != -1), .int .i64 p.f1] = x5 at hHeld2 GB GA ⊢
     refine hK.out _ _ hHeld2 (fun hHeld' => ?_)
     clear hHeld2
     clear hK K hHeld; have hHeld := hHeld'; clear hHeld'
     try simp only [ptl]
     refine rd1 (i := 7) (o := ⟨none, _, _, _, _, _⟩) rfl (fun K hK => ?_)
     rw [if_pos (by rfl)]
     refine wp_store_row 146 _ _ rfl gB #[.bool (q.f0 != 0), .int .i64 q.f0, .bool (q.f1 != -1), .int .i64 q.f1] rfl rfl 146 _ GB (by kernel_rfl) (by kernel_rfl) (by kernel_rfl) ?_
     replace GB := box_row (cs := #[.bool (q.f0 != 0), .int .i64 q.f0, .bool (q.f1 != -1), .int .i64 q.f1]) GB
     replace GA := box_far (cs := #[.bool (q.f0 != 0), .int .i64 q.f0, .bool (q.f1 != -1), .int .i64 q.f1]) (g := gB) GA (by omega)
     have hc1 := chg_row x5 gB #[.bool (q.f0 != 0), .int .i64 q.f0, .bool (q.f1 != -1), .int .i64 q.f1]
     have hHeld2 : BoxAt (World.setRow x5 gB #[.bool (q.f0 != 0), .int .i64 q.f0, .bool (q.f1 != -1), .int .i64 q.f1]) w.heap.size 33 #[.int .i64 p.f0, .int .i64 p.f1] ∧ BoxAt (World.setRow x5 gB #[.bool (q.f0 != 0), .int .i64 q.f0, .bool (q.f1 != -1), .int .i64 q.f1]) (w.heap.size + 1) 33 #[.int .i64 q.f0, .int .i64 q.f1] ∧ Below w.heap.size w (World.setRow x5 gB #[.bool (q.f0 != 0), .int .i64 q.f0, .bool (q.f1 != -1), .int .i64 q.f1]) := ⟨hHeld.1.chg hc1 (by omega), hHeld.2.1.chg hc1 (by omega), below_setRow hHeld.2.2 (by omega) _⟩
     clear hc1
     generalize World.setRow x5 gB #[.bool (q.f0 != 0), .int .i64 q.f0, .bool (q.f1 != -1), .int .i64 q.f1] = x6 at hHeld2 GB GA ⊢
     refine hK.out _ _ hHeld2 (fun hHeld' => ?_)
     clear hHeld2
     clear hK K hHeld; have hHeld := hHeld'; clear hHeld'
     try simp only [ptl]
     refine wpAnyH_done (by kernel_rfl) ?_ _
     go_wp2_with fail
     go_meet
     exact ⟨gA, gB, rfl, rfl, GA, GB, hHeld.1, hHeld.2.1, by omega, LA, LB, hHeld.2.2⟩
    refine AllReadyH.cons (o := ⟨some 5, _, _, _, _, _⟩) rfl (fun K hK => ?_) ?_
    ·
     go_simp
     have GA := box_new (x2) 146 #[.bool false, .int .i64 0, .bool false, .int .i64 0]
     have hb1 := (Below.refl (x2).heap.size (x2)).alloc (Nat.le_refl _) (.cells #[.bool false, .int .i64 0, .bool false, .int .i64 0] 146)
     have LA : w.heap.size + 2 ≤ (x2).heap.size := by have := (hHeld.1).lt; have := (hHeld.2.1).lt; have := (hHeld.2.2).size; omega
     have NBA : gB < (x2).heap.size := GB.lt
     replace GB := GB.new hb1
     generalize (x2).alloc (.cells #[.bool false, .int .i64 0, .bool false, .int .i64 0] 146) = x3 at hb1 GA GB ⊢
     generalize hg : (x2).heap.size = gA at GA LA NBA ⊢
     clear hg
     refine hK.out _ _ ⟨hHeld.1.new hb1, hHeld.2.1.new hb1, below_trans hHeld.2.2 hb1 (Nat.le_refl _)⟩ (fun hHeld' => ?_)
     clear hK K hHeld hb1; have hHeld := hHeld'; clear hHeld'
     try simp only [ptl]
     refine rd1 (i := 3) (o := ⟨some 10, _, _, _, _, _⟩) rfl (fun K hK => ?_)
     go_simp
     refine Calls.mono (impl_scopeOf q _) ?_
     rintro e x4 ⟨rfl, hb1⟩
     replace GB := GB.new hb1
     replace GA := GA.new hb1
     refine hK.out _ _ ⟨hHeld.1.new hb1, hHeld.2.1.new hb1, below_trans hHeld.2.2 hb1 (Nat.le_refl _)⟩ (fun hHeld' => ?_)
     clear hK K hHeld hb1; have hHeld := hHeld'; clear hHeld'
     try simp only [ptl]
     refine rd1 (i := 6) (o := ⟨none, _, _, _, _, _⟩) rfl (fun K hK => ?_)
     rw [if_pos (by rfl)]
     refine wp_store_row 146 _ _ rfl gA #[.bool (p.f0 != 0), .int .i64 p.f0, .bool (p.f1 != -1), .int .i64 p.f1] rfl rfl 146 _ GA (by kernel_rfl) (by kernel_rfl) (by kernel_rfl) ?_
     replace GB := box_far (cs := #[.bool (p.f0 != 0), .int .i64 p.f0, .bool (p.f1 != -1), .int .i64 p.f1]) (g := gA) GB (by omega)
     replace GA := box_row (cs := #[.bool (p.f0 != 0), .int .i64 p.f0, .bool (p.f1 != -1), .int .i64 p.f1]) GA
     have hc1 := chg_row x4 gA #[.bool (p.f0 != 0), .int .i64 p.f0, .bool (p.f1 != -1), .int .i64 p.f1]
     have hHeld2 : BoxAt (World.setRow x4 gA #[.bool (p.f0 != 0), .int .i64 p.f0, .bool (p.f1 != -1), .int .i64 p.f1]) w.heap.size 33 #[.int .i64 p.f0, .int .i64 p.f1] ∧ BoxAt (World.setRow x4 gA #[.bool (p.f0 != 0), .int .i64 p.f0, .bool (p.f1 != -1), .int .i64 p.f1]) (w.heap.size + 1) 33 #[.int .i64 q.f0, .int .i64 q.f1] ∧ Below w.heap.size w (World.setRow x4 gA #[.bool (p.f0 != 0), .int .i64 p.f0, .bool (p.f1 != -1), .int .i64 p.f1]) := ⟨hHeld.1.chg hc1 (by omega), hHeld.2.1.chg hc1 (by omega), below_setRow hHeld.2.2 (by omega) _⟩
     clear hc1
     generalize World.setRow x4 gA #[.bool (p.f0 != 0), .int .i64 p.f0, .bool (p.f1 != -1), .int .i64 p.f1] = x5 at hHeld2 GB GA ⊢
     refine hK.out _ _ hHeld2 (fun hHeld' => ?_)
     clear hHeld2
     clear hK K hHeld; have hHeld := hHeld'; clear hHeld'
     try simp only [ptl]
     refine rd1 (i := 7) (o := ⟨none, _, _, _, _, _⟩) rfl (fun K hK => ?_)
     rw [if_pos (by rfl)]
     refine wp_store_row 146 _ _ rfl gB #[.bool (q.f0 != 0), .int .i64 q.f0, .bool (q.f1 != -1), .int .i64 q.f1] rfl rfl 146 _ GB (by kernel_rfl) (by kernel_rfl) (by kernel_rfl) ?_
     replace GB := box_row (cs := #[.bool (q.f0 != 0), .int .i64 q.f0, .bool (q.f1 != -1), .int .i64 q.f1]) GB
     replace GA := box_far (cs := #[.bool (q.f0 != 0), .int .i64 q.f0, .bool (q.f1 != -1), .int .i64 q.f1]) (g := gB) GA (by omega)
     have hc1 := chg_row x5 gB #[.bool (q.f0 != 0), .int .i64 q.f0, .bool (q.f1 != -1), .int .i64 q.f1]
     have hHeld2 : BoxAt (World.setRow x5 gB #[.bool (q.f0 != 0), .int .i64 q.f0, .bool (q.f1 != -1), .int .i64 q.f1]) w.heap.size 33 #[.int .i64 p.f0, .int .i64 p.f1] ∧ BoxAt (World.setRow x5 gB #[.bool (q.f0 != 0), .int .i64 q.f0, .bool (q.f1 != -1), .int .i64 q.f1]) (w.heap.size + 1) 33 #[.int .i64 q.f0, .int .i64 q.f1] ∧ Below w.heap.size w (World.setRow x5 gB #[.bool (q.f0 != 0), .int .i64 q.f0, .bool (q.f1 != -1), .int .i64 q.f1]) := ⟨hHeld.1.chg hc1 (by omega), hHeld.2.1.chg hc1 (by omega), below_setRow hHeld.2.2 (by omega) _⟩
     clear hc1
     generalize World.setRow x5 gB #[.bool (q.f0 != 0), .int .i64 q.f0, .bool (q.f1 != -1), .int .i64 q.f1] = x6 at hHeld2 GB GA ⊢
     refine hK.out _ _ hHeld2 (fun hHeld' => ?_)
     clear hHeld2
     clear hK K hHeld; have hHeld := hHeld'; clear hHeld'
     try simp only [ptl]
     refine wpAnyH_done (by kernel_rfl) ?_ _
     go_wp2_with fail
     go_meet
     exact ⟨gA, gB, rfl, rfl, GA, GB, hHeld.1, hHeld.2.1, by omega, LA, LB, hHeld.2.2⟩
    exact AllReadyH.nil
   refine AllReadyH.cons (o := ⟨some 5, _, _, _, _, _⟩) rfl (fun K hK => ?_) ?_
   ·
    go_simp
    have GA := box_new (x1) 146 #[.bool false, .int .i64 0, .bool false, .int .i64 0]
    have hb1 := (Below.refl (x1).heap.size (x1)).alloc (Nat.le_refl _) (.cells #[.bool false, .int .i64 0, .bool false, .int .i64 0] 146)
    have LA : w.heap.size + 2 ≤ (x1).heap.size := by have := (hHeld.1).lt; have := (hHeld.2.1).lt; have := (hHeld.2.2).size; omega
    have NBA : gB < (x1).heap.size := GB.lt
    replace GB := GB.new hb1
    generalize (x1).alloc (.cells #[.bool false, .int .i64 0, .bool false, .int .i64 0] 146) = x2 at hb1 GA GB ⊢
    generalize hg : (x1).heap.size = gA at GA LA NBA ⊢
    clear hg
    refine hK.out _ _ ⟨hHeld.1.new hb1, hHeld.2.1.new hb1, below_trans hHeld.2.2 hb1 (Nat.le_refl _)⟩ (fun hHeld' => ?_)
    clear hK K hHeld hb1; have hHeld := hHeld'; clear hHeld'
    try simp only [ptl]
    refine rd1 (i := 1) (o := ⟨some 8, _, _, _, _, _⟩) rfl (fun K hK => ?_)
    go_simp
    refine Calls.mono (impl_scopeOf p _) ?_
    rintro e x3 ⟨rfl, hb1⟩
    replace GB := GB.new hb1
    replace GA := GA.new hb1
    refine hK.out _ _ ⟨hHeld.1.new hb1, hHeld.2.1.new hb1, below_trans hHeld.2.2 hb1 (Nat.le_refl _)⟩ (fun hHeld' => ?_)
    clear hK K hHeld hb1; have hHeld := hHeld'; clear hHeld'
    try simp only [ptl]
    refine rd1 (i := 3) (o := ⟨some 10, _, _, _, _, _⟩) rfl (fun K hK => ?_)
    go_simp
    refine Calls.mono (impl_scopeOf q _) ?_
    rintro e x4 ⟨rfl, hb1⟩
    replace GB := GB.new hb1
    replace GA := GA.new hb1
    refine hK.out _ _ ⟨hHeld.1.new hb1, hHeld.2.1.new hb1, below_trans hHeld.2.2 hb1 (Nat.le_refl _)⟩ (fun hHeld' => ?_)
    clear hK K hHeld hb1; have hHeld := hHeld'; clear hHeld'
    try simp only [ptl]
    refine rd1 (i := 6) (o := ⟨none, _, _, _, _, _⟩) rfl (fun K hK => ?_)
    rw [if_pos (by rfl)]
    refine wp_store_row 146 _ _ rfl gA #[.bool (p.f0 != 0), .int .i64 p.f0, .bool (p.f1 != -1), .int .i64 p.f1] rfl rfl 146 _ GA (by kernel_rfl) (by kernel_rfl) (by kernel_rfl) ?_
    replace GB := box_far (cs := #[.bool (p.f0 != 0), .int .i64 p.f0, .bool (p.f1 != -1), .int .i64 p.f1]) (g := gA) GB (by omega)
    replace GA := box_row (cs := #[.bool (p.f0 != 0), .int .i64 p.f0, .bool (p.f1 != -1), .int .i64 p.f1]) GA
    have hc1 := chg_row x4 gA #[.bool (p.f0 != 0), .int .i64 p.f0, .bool (p.f1 != -1), .int .i64 p.f1]
    have hHeld2 : BoxAt (World.setRow x4 gA #[.bool (p.f0 != 0), .int .i64 p.f0, .bool (p.f1 != -1), .int .i64 p.f1]) w.heap.size 33 #[.int .i64 p.f0, .int .i64 p.f1] ∧ BoxAt (World.setRow x4 gA #[.bool (p.f0 != 0), .int .i64 p.f0, .bool (p.f1 != -1), .int .i64 p.f1]) (w.heap.size + 1) 33 #[.int .i64 q.f0, .int .i64 q.f1] ∧ Below w.heap.size w (World.setRow x4 gA #[.bool (p.f0 != 0), .int .i64 p.f0, .bool (p.f1 != -1), .int .i64 p.f1]) := ⟨hHeld.1.chg hc1 (by omega), hHeld.2.1.chg hc1 (by omega), below_setRow hHeld.2.2 (by omega) _⟩
    clear hc1
    generalize World.setRow x4 gA #[.bool (p.f0 != 0), .int .i64 p.f0, .bool (p.f1 != -1), .int .i64 p.f1] = x5 at hHeld2 GB GA ⊢
    refine hK.out _ _ hHeld2 (fun hHeld' => ?_)
    clear hHeld2
    clear hK K hHeld; have hHeld := hHeld'; clear hHeld'
    try simp only [ptl]
    refine rd1 (i := 7) (o := ⟨none, _, _, _, _, _⟩) rfl (fun K hK => ?_)
    rw [if_pos (by rfl)]
    refine wp_store_row 146 _ _ rfl gB #[.bool (q.f0 != 0), .int .i64 q.f0, .bool (q.f1 != -1), .int .i64 q.f1] rfl rfl 146 _ GB (by kernel_rfl) (by kernel_rfl) (by kernel_rfl) ?_
    replace GB := box_row (cs := #[.bool (q.f0 != 0), .int .i64 q.f0, .bool (q.f1 != -1), .int .i64 q.f1]) GB
    replace GA := box_far (cs := #[.bool (q.f0 != 0), .int .i64 q.f0, .bool (q.f1 != -1), .int .i64 q.f1]) (g := gB) GA (by omega)
    have hc1 := chg_row x5 gB #[.bool (q.f0 != 0), .int .i64 q.f0, .bool (q.f1 != -1), .int .i64 q.f1]
    have hHeld2 : BoxAt (World.setRow x5 gB #[.bool (q.f0 != 0), .int .i64 q.f0, .bool (q.f1 != -1), .int .i64 q.f1]) w.heap.size 33 #[.int .i64 p.f0, .int .i64 p.f1] ∧ BoxAt (World.setRow x5 gB #[.bool (q.f0 != 0), .int .i64 q.f0, .bool (q.f1 != -1), .int .i64 q.f1]) (w.heap.size + 1) 33 #[.int .i64 q.f0, .int .i64 q.f1] ∧ Below w.heap.size w (World.setRow x5 gB #[.bool (q.f0 != 0), .int .i64 q.f0, .bool (q.f1 != -1), .int .i64 q.f1]) := ⟨hHeld.1.chg hc1 (by omega), hHeld.2.1.chg hc1 (by omega), below_setRow hHeld.2.2 (by omega) _⟩
    clear hc1
    generalize World.setRow x5 gB #[.bool (q.f0 != 0), .int .i64 q.f0, .bool (q.f1 != -1), .int .i64 q.f1] = x6 at hHeld2 GB GA ⊢
    refine hK.out _ _ hHeld2 (fun hHeld' => ?_)
    clear hHeld2
    clear hK K hHeld; have hHeld := hHeld'; clear hHeld'
    try simp only [ptl]
    refine wpAnyH_done (by kernel_rfl) ?_ _
    go_wp2_with fail
    go_meet
    exact ⟨gA, gB, rfl, rfl, GA, GB, hHeld.1, hHeld.2.1, by omega, LA, LB, hHeld.2.2⟩
   exact AllReadyH.nil
  exact AllReadyH.nil
 case rest =>
  obtain ⟨g5, g6, rfl, rfl, HS⟩ := hcut
  clear KB0 KB1 HBw
  have HS := Lib.hid HS
  have eb50 := HS.out.b5.at_ (j := 0) rfl
  have eb51 := HS.out.b5.at_ (j := 1) rfl
  have eb52 := HS.out.b5.at_ (j := 2) rfl
  have eb53 := HS.out.b5.at_ (j := 3) rfl
  have eb60 := HS.out.b6.at_ (j := 0) rfl
  have eb61 := HS.out.b6.at_ (j := 1) rfl
  have eb62 := HS.out.b6.at_ (j := 2) rfl
  have eb63 := HS.out.b6.at_ (j := 3) rfl
  have ebp0 := HS.out.bp.at_ (j := 0) rfl
  have ebp1 := HS.out.bp.at_ (j := 1) rfl
  have ebq0 := HS.out.bq.at_ (j := 0) rfl
  have ebq1 := HS.out.bq.at_ (j := 1) rfl
  cases b0
  ·
   go_wp2_with (first | (go_at_call 118; (first | (with_reducible refine Calls.mono (C0.out _) ?_) | (with_reducible refine Calls.mono (C1.out _) ?_)); rintro e w1 ⟨rfl, hb1⟩; (replace HS := Lib.hid (HS.out.new hb1)); (have eb50 := HS.out.b5.at_ (j := 0) rfl); (have eb51 := HS.out.b5.at_ (j := 1) rfl); (have eb52 := HS.out.b5.at_ (j := 2) rfl); (have eb53 := HS.out.b5.at_ (j := 3) rfl); (have eb60 := HS.out.b6.at_ (j := 0) rfl); (have eb61 := HS.out.b6.at_ (j := 1) rfl); (have eb62 := HS.out.b6.at_ (j := 2) rfl); (have eb63 := HS.out.b6.at_ (j := 3) rfl); (have ebp0 := HS.out.bp.at_ (j := 0) rfl); (have ebp1 := HS.out.bp.at_ (j := 1) rfl); (have ebq0 := HS.out.bq.at_ (j := 0) rfl); (have ebq1 := HS.out.bq.at_ (j := 1) rfl); clear hb1) | (go_at_call 217; (first | (with_reducible refine Calls.mono (C2.out _) ?_) | (with_reducible refine Calls.mono (C3.out _) ?_)); rintro e w1 ⟨rfl, hb1⟩; (replace HS := Lib.hid (HS.out.new hb1)); (have eb50 := HS.out.b5.at_ (j := 0) rfl); (have eb51 := HS.out.b5.at_ (j := 1) rfl); (have eb52 := HS.out.b5.at_ (j := 2) rfl); (have eb53 := HS.out.b5.at_ (j := 3) rfl); (have eb60 := HS.out.b6.at_ (j := 0) rfl); (have eb61 := HS.out.b6.at_ (j := 1) rfl); (have eb62 := HS.out.b6.at_ (j := 2) rfl); (have eb63 := HS.out.b6.at_ (j := 3) rfl); (have ebp0 := HS.out.bp.at_ (j := 0) rfl); (have ebp1 := HS.out.bp.at_ (j := 1) rfl); (have ebq0 := HS.out.bq.at_ (j := 0) rfl); (have ebq1 := HS.out.bq.at_ (j := 1) rfl); clear hb1))
   go_ret
   exact ⟨rfl, HS.out.below⟩
  ·
   cases b1
   ·
    go_wp2_with (first | (go_at_call 118; (first | (with_reducible refine Calls.mono (C0.out _) ?_) | (with_reducible refine Calls.mono (C1.out _) ?_)); rintro e w1 ⟨rfl, hb1⟩; (replace HS := Lib.hid (HS.out.new hb1)); (have eb50 := HS.out.b5.at_ (j := 0) rfl); (have eb51 := HS.out.b5.at_ (j := 1) rfl); (have eb52 := HS.out.b5.at_ (j := 2) rfl); (have eb53 := HS.out.b5.at_ (j := 3) rfl); (have eb60 := HS.out.b6.at_ (j := 0) rfl); (have eb61 := HS.out.b6.at_ (j := 1) rfl); (have eb62 := HS.out.b6.at_ (j := 2) rfl); (have eb63 := HS.out.b6.at_ (j := 3) rfl); (have ebp0 := HS.out.bp.at_ (j := 0) rfl); (have ebp1 := HS.out.bp.at_ (j := 1) rfl); (have ebq0 := HS.out.bq.at_ (j := 0) rfl); (have ebq1 := HS.out.bq.at_ (j := 1) rfl); clear hb1) | (go_at_call 217; (first | (with_reducible refine Calls.mono (C2.out _) ?_) | (with_reducible refine Calls.mono (C3.out _) ?_)); rintro e w1 ⟨rfl, hb1⟩; (replace HS := Lib.hid (HS.out.new hb1)); (have eb50 := HS.out.b5.at_ (j := 0) rfl); (have eb51 := HS.out.b5.at_ (j := 1) rfl); (have eb52 := HS.out.b5.at_ (j := 2) rfl); (have eb53 := HS.out.b5.at_ (j := 3) rfl); (have eb60 := HS.out.b6.at_ (j := 0) rfl); (have eb61 := HS.out.b6.at_ (j := 1) rfl); (have eb62 := HS.out.b6.at_ (j := 2) rfl); (have eb63 := HS.out.b6.at_ (j := 3) rfl); (have ebp0 := HS.out.bp.at_ (j := 0) rfl); (have ebp1 := HS.out.bp.at_ (j := 1) rfl); (have ebq0 := HS.out.bq.at_ (j := 0) rfl); (have ebq1 := HS.out.bq.at_ (j := 1) rfl); clear hb1))
    go_ret
    exact ⟨rfl, HS.out.below⟩
   ·
    cases b2
    ·
     go_wp2_with (first | (go_at_call 118; (first | (with_reducible refine Calls.mono (C0.out _) ?_) | (with_reducible refine Calls.mono (C1.out _) ?_)); rintro e w1 ⟨rfl, hb1⟩; (replace HS := Lib.hid (HS.out.new hb1)); (have eb50 := HS.out.b5.at_ (j := 0) rfl); (have eb51 := HS.out.b5.at_ (j := 1) rfl); (have eb52 := HS.out.b5.at_ (j := 2) rfl); (have eb53 := HS.out.b5.at_ (j := 3) rfl); (have eb60 := HS.out.b6.at_ (j := 0) rfl); (have eb61 := HS.out.b6.at_ (j := 1) rfl); (have eb62 := HS.out.b6.at_ (j := 2) rfl); (have eb63 := HS.out.b6.at_ (j := 3) rfl); (have ebp0 := HS.out.bp.at_ (j := 0) rfl); (have ebp1 := HS.out.bp.at_ (j := 1) rfl); (have ebq0 := HS.out.bq.at_ (j := 0) rfl); (have ebq1 := HS.out.bq.at_ (j := 1) rfl); clear hb1) | (go_at_call 217; (first | (with_reducible refine Calls.mono (C2.out _) ?_) | (with_reducible refine Calls.mono (C3.out _) ?_)); rintro e w1 ⟨rfl, hb1⟩; (replace HS := Lib.hid (HS.out.new hb1)); (have eb50 := HS.out.b5.at_ (j := 0) rfl); (have eb51 := HS.out.b5.at_ (j := 1) rfl); (have eb52 := HS.out.b5.at_ (j := 2) rfl); (have eb53 := HS.out.b5.at_ (j := 3) rfl); (have eb60 := HS.out.b6.at_ (j := 0) rfl); (have eb61 := HS.out.b6.at_ (j := 1) rfl); (have eb62 := HS.out.b6.at_ (j := 2) rfl); (have eb63 := HS.out.b6.at_ (j := 3) rfl); (have ebp0 := HS.out.bp.at_ (j := 0) rfl); (have ebp1 := HS.out.bp.at_ (j := 1) rfl); (have ebq0 := HS.out.bq.at_ (j := 0) rfl); (have ebq1 := HS.out.bq.at_ (j := 1) rfl); clear hb1))
     go_ret
     exact ⟨rfl, HS.out.below⟩
    ·
     cases b3
     ·
      go_wp2_with (first | (go_at_call 118; (first | (with_reducible refine Calls.mono (C0.out _) ?_) | (with_reducible refine Calls.mono (C1.out _) ?_)); rintro e w1 ⟨rfl, hb1⟩; (replace HS := Lib.hid (HS.out.new hb1)); (have eb50 := HS.out.b5.at_ (j := 0) rfl); (have eb51 := HS.out.b5.at_ (j := 1) rfl); (have eb52 := HS.out.b5.at_ (j := 2) rfl); (have eb53 := HS.out.b5.at_ (j := 3) rfl); (have eb60 := HS.out.b6.at_ (j := 0) rfl); (have eb61 := HS.out.b6.at_ (j := 1) rfl); (have eb62 := HS.out.b6.at_ (j := 2) rfl); (have eb63 := HS.out.b6.at_ (j := 3) rfl); (have ebp0 := HS.out.bp.at_ (j := 0) rfl); (have ebp1 := HS.out.bp.at_ (j := 1) rfl); (have ebq0 := HS.out.bq.at_ (j := 0) rfl); (have ebq1 := HS.out.bq.at_ (j := 1) rfl); clear hb1) | (go_at_call 217; (first | (with_reducible refine Calls.mono (C2.out _) ?_) | (with_reducible refine Calls.mono (C3.out _) ?_)); rintro e w1 ⟨rfl, hb1⟩; (replace HS := Lib.hid (HS.out.new hb1)); (have eb50 := HS.out.b5.at_ (j := 0) rfl); (have eb51 := HS.out.b5.at_ (j := 1) rfl); (have eb52 := HS.out.b5.at_ (j := 2) rfl); (have eb53 := HS.out.b5.at_ (j := 3) rfl); (have eb60 := HS.out.b6.at_ (j := 0) rfl); (have eb61 := HS.out.b6.at_ (j := 1) rfl); (have eb62 := HS.out.b6.at_ (j := 2) rfl); (have eb63 := HS.out.b6.at_ (j := 3) rfl); (have ebp0 := HS.out.bp.at_ (j := 0) rfl); (have ebp1 := HS.out.bp.at_ (j := 1) rfl); (have ebq0 := HS.out.bq.at_ (j := 0) rfl); (have ebq1 := HS.out.bq.at_ (j := 1) rfl); clear hb1))
      go_ret
      exact ⟨rfl, HS.out.below⟩
     ·
      go_wp2_with (first | (go_at_call 118; (first | (with_reducible refine Calls.mono (C0.out _) ?_) | (with_reducible refine Calls.mono (C1.out _) ?_)); rintro e w1 ⟨rfl, hb1⟩; (replace HS := Lib.hid (HS.out.new hb1)); (have eb50 := HS.out.b5.at_ (j := 0) rfl); (have eb51 := HS.out.b5.at_ (j := 1) rfl); (have eb52 := HS.out.b5.at_ (j := 2) rfl); (have eb53 := HS.out.b5.at_ (j := 3) rfl); (have eb60 := HS.out.b6.at_ (j := 0) rfl); (have eb61 := HS.out.b6.at_ (j := 1) rfl); (have eb62 := HS.out.b6.at_ (j := 2) rfl); (have eb63 := HS.out.b6.at_ (j := 3) rfl); (have ebp0 := HS.out.bp.at_ (j := 0) rfl); (have ebp1 := HS.out.bp.at_ (j := 1) rfl); (have ebq0 := HS.out.bq.at_ (j := 0) rfl); (have ebq1 := HS.out.bq.at_ (j := 1) rfl); clear hb1) | (go_at_call 217; (first | (with_reducible refine Calls.mono (C2.out _) ?_) | (with_reducible refine Calls.mono (C3.out _) ?_)); rintro e w1 ⟨rfl, hb1⟩; (replace HS := Lib.hid (HS.out.new hb1)); (have eb50 := HS.out.b5.at_ (j := 0) rfl); (have eb51 := HS.out.b5.at_ (j := 1) rfl); (have eb52 := HS.out.b5.at_ (j := 2) rfl); (have eb53 := HS.out.b5.at_ (j := 3) rfl); (have eb60 := HS.out.b6.at_ (j := 0) rfl); (have eb61 := HS.out.b6.at_ (j := 1) rfl); (have eb62 := HS.out.b6.at_ (j := 2) rfl); (have eb63 := HS.out.b6.at_ (j := 3) rfl); (have ebp0 := HS.out.bp.at_ (j := 0) rfl); (have ebp1 := HS.out.bp.at_ (j := 1) rfl); (have ebq0 := HS.out.bq.at_ (j := 0) rfl); (have ebq1 := HS.out.bq.at_ (j := 1) rfl); clear hb1))
      go_ret
      exact ⟨rfl, HS.out.below⟩

end Go.Proofs.Ytfceddgacefejaa
