/- IsDenied, of the program and of the model. -/
import Derived.Test.YtafekceggpbnlaaGreatLimit
import Derived.Test.YtafekceggpbnlaaGreatAllow
import Derived.Deep.RegionHeld3
namespace Go.Proofs.YtafekceggpbnlaaGreat
open Go Go.ChangeShapes Go.WideShapes Go.ChangeAt Go.RowKit Go.Lib
set_option linter.unusedVariables false
set_option linter.unusedSimpArgs false
set_option maxRecDepth 100000
def mDeny (ext : Int) (s : TSite) (kind : Int) (x : TLimit) : Bool := mIsLimit x && mTakes 0 x.f0 ext && mTakes 0 x.f3 kind && mMatchSite ⟨x.f1, x.f2⟩ s
def mDenied (l : List TLimit) (ext : Int) (s : TSite) (kind : Int) : Bool := l.any (mDeny ext s kind)

set_option maxHeartbeats 4000000 in
theorem clo_Denied (ext : Int) (s : TSite) (kind : Int) (B : Nat) (l : List TLimit) (w0 : World) (h0 : BoxAt w0 B 3 #[.int .i64 ext]) (h1 : BoxAt w0 (B + 1) 35 #[.int .i64 s.f0, .int .i64 s.f1]) (h2 : BoxAt w0 (B + 2) 3 #[.int .i64 kind]) :
    PredB Tryz.prog 96 #[.pointer (some ⟨B, 0, none⟩), .pointer (some ⟨B + 2, 0, none⟩), .pointer (some ⟨B + 1, 0, none⟩)] vLimit (mDeny ext s kind) l w0 := fun w x _ hb => by
  have C0 := fun W => impl_IsLimit x W
  have C1 := fun W => impl_takes 0 x.f0 ext W
  have C2 := fun W => impl_takes 0 x.f3 kind W
  have C3 := fun W => impl_MatchSite ⟨x.f1, x.f2⟩ s W
  unfold mDeny
  generalize mIsLimit x = b0 at C0 ⊢
  generalize mTakes 0 x.f0 ext = b1 at C1 ⊢
  generalize mTakes 0 x.f3 kind = b2 at C2 ⊢
  generalize mMatchSite ⟨x.f1, x.f2⟩ s = b3 at C3 ⊢
  have KB0 : BoxAt (w.alloc (.cells #[.int .i64 x.f0, .int .i64 x.f1, .int .i64 x.f2, .int .i64 x.f3] 122)).drew w.heap.size 122 #[.int .i64 x.f0, .int .i64 x.f1, .int .i64 x.f2, .int .i64 x.f3] := ((by simpa using box_new w 122 #[.int .i64 x.f0, .int .i64 x.f1, .int .i64 x.f2, .int .i64 x.f3] : BoxAt (w.alloc (.cells #[.int .i64 x.f0, .int .i64 x.f1, .int .i64 x.f2, .int .i64 x.f3] 122)) w.heap.size 122 #[.int .i64 x.f0, .int .i64 x.f1, .int .i64 x.f2, .int .i64 x.f3])).drw
  have HBw : Below w.heap.size w (w.alloc (.cells #[.int .i64 x.f0, .int .i64 x.f1, .int .i64 x.f2, .int .i64 x.f3] 122)).drew := ((Below.refl _ _).alloc (by first | exact Nat.le_refl _ | (simp; done) | (simp; omega)) _).drew
  have J0 := ((h0.new hb).alloc_ (.cells #[.int .i64 x.f0, .int .i64 x.f1, .int .i64 x.f2, .int .i64 x.f3] 122)).drw
  have J1 := ((h1.new hb).alloc_ (.cells #[.int .i64 x.f0, .int .i64 x.f1, .int .i64 x.f2, .int .i64 x.f3] 122)).drw
  have J2 := ((h2.new hb).alloc_ (.cells #[.int .i64 x.f0, .int .i64 x.f1, .int .i64 x.f2, .int .i64 x.f3] 122)).drw
  clear h0 h1 h2 hb
  change Calls Tryz.prog _ #[vLimit x, .pointer (some ⟨B, 0, none⟩), .pointer (some ⟨B + 2, 0, none⟩), .pointer (some ⟨B + 1, 0, none⟩)] _ _
  go_enter Tryz.func96, Tryz.ntmps96
  go_wp2_with fail
  refine wp_region_held_drew (S := fun w' => BoxAt w' w.heap.size 122 #[.int .i64 x.f0, .int .i64 x.f1, .int .i64 x.f2, .int .i64 x.f3] ∧ BoxAt w' B 3 #[.int .i64 ext] ∧ BoxAt w' (B + 1) 35 #[.int .i64 s.f0, .int .i64 s.f1] ∧ BoxAt w' (B + 2) 3 #[.int .i64 kind] ∧ Below w.heap.size w w') (by kernel_rfl) ?_ (fun hHeld => ?_)
  · exact ⟨KB0, J0, J1, J2, HBw⟩
  refine wpAnyH_take (i := 0) (oi := ⟨some 6, _, _, _, _, _⟩) (v := ?_) rfl (by kernel_rfl) (by kernel_rfl) (by kernel_rfl) (fun _ _ _ h => h) (Or.inl ⟨by kernel_rfl, ?_⟩) hHeld ?_
  rotate_left
  focus (intro W hS; have c0_0 := (hS.1).at_ (j := 0) rfl; have c0_1 := (hS.1).at_ (j := 1) rfl; have c0_2 := (hS.1).at_ (j := 2) rfl; have c0_3 := (hS.1).at_ (j := 3) rfl; have c1_0 := (hS.2.1).at_ (j := 0) rfl; have c2_0 := (hS.2.2.1).at_ (j := 0) rfl; have c2_1 := (hS.2.2.1).at_ (j := 1) rfl; have c3_0 := (hS.2.2.2.1).at_ (j := 0) rfl; clear hS; first | (go_simp; done) | (go_simp; with_reducible rfl))
  try simp only [Act.put, List.setIfInBounds_toArray, List.set_cons_zero, List.set_cons_succ]
  refine wpAnyH_ready (rs := [1]) (by kernel_rfl) (by simp) ?_
  refine AllReadyH.cons (o := ⟨some 7, _, _, _, _, _⟩) rfl (fun K hK => ?_) AllReadyH.nil
  go_simp
  refine Calls.mono (C0 _) ?_
  rintro e w1 ⟨rfl, hb1⟩
  refine hK.out _ _ ⟨hHeld.1.new hb1, hHeld.2.1.new hb1, hHeld.2.2.1.new hb1, hHeld.2.2.2.1.new hb1, below_trans hHeld.2.2.2.2 hb1 (Nat.le_refl _)⟩ (fun hHeld' => ?_)
  clear hK K hHeld hb1
  have hHeld := hHeld'
  clear hHeld'
  try simp only [Act.put, List.setIfInBounds_toArray, List.set_cons_zero, List.set_cons_succ]
  cases b0
  · skip
    refine wpAnyH_take (i := 2) (oi := ⟨some 8, _, _, _, _, _⟩) (v := ?_) rfl (by kernel_rfl) (by kernel_rfl) (by kernel_rfl) (fun _ _ _ h => h) (Or.inl ⟨by kernel_rfl, ?_⟩) hHeld ?_
    rotate_left
    focus (intro W hS; have c0_0 := (hS.1).at_ (j := 0) rfl; have c0_1 := (hS.1).at_ (j := 1) rfl; have c0_2 := (hS.1).at_ (j := 2) rfl; have c0_3 := (hS.1).at_ (j := 3) rfl; have c1_0 := (hS.2.1).at_ (j := 0) rfl; have c2_0 := (hS.2.2.1).at_ (j := 0) rfl; have c2_1 := (hS.2.2.1).at_ (j := 1) rfl; have c3_0 := (hS.2.2.2.1).at_ (j := 0) rfl; clear hS; first | (go_simp; done) | (go_simp; with_reducible rfl))
    try simp only [Act.put, List.setIfInBounds_toArray, List.set_cons_zero, List.set_cons_succ]
    refine wpAnyH_take (i := 3) (oi := ⟨some 9, _, _, _, _, _⟩) (v := undef) rfl (by kernel_rfl) (by kernel_rfl) (by kernel_rfl) (fun _ _ _ h => h) (Or.inr ⟨by kernel_rfl, rfl⟩) hHeld ?_
    try simp only [Act.put, List.setIfInBounds_toArray, List.set_cons_zero, List.set_cons_succ]
    refine wpAnyH_take (i := 4) (oi := ⟨some 10, _, _, _, _, _⟩) (v := undef) rfl (by kernel_rfl) (by kernel_rfl) (by kernel_rfl) (fun _ _ _ h => h) (Or.inr ⟨by kernel_rfl, rfl⟩) hHeld ?_
    try simp only [Act.put, List.setIfInBounds_toArray, List.set_cons_zero, List.set_cons_succ]
    refine wpAnyH_take (i := 6) (oi := ⟨some 12, _, _, _, _, _⟩) (v := undef) rfl (by kernel_rfl) (by kernel_rfl) (by kernel_rfl) (fun _ _ _ h => h) (Or.inr ⟨by kernel_rfl, rfl⟩) hHeld ?_
    try simp only [Act.put, List.setIfInBounds_toArray, List.set_cons_zero, List.set_cons_succ]
    refine wpAnyH_take (i := 5) (oi := ⟨some 11, _, _, _, _, _⟩) (v := undef) rfl (by kernel_rfl) (by kernel_rfl) (by kernel_rfl) (fun _ _ _ h => h) (Or.inr ⟨by kernel_rfl, rfl⟩) hHeld ?_
    try simp only [Act.put, List.setIfInBounds_toArray, List.set_cons_zero, List.set_cons_succ]
    refine wpAnyH_take (i := 7) (oi := ⟨some 13, _, _, _, _, _⟩) (v := undef) rfl (by kernel_rfl) (by kernel_rfl) (by kernel_rfl) (fun _ _ _ h => h) (Or.inr ⟨by kernel_rfl, rfl⟩) hHeld ?_
    try simp only [Act.put, List.setIfInBounds_toArray, List.set_cons_zero, List.set_cons_succ]
    refine wpAnyH_take (i := 8) (oi := ⟨some 14, _, _, _, _, _⟩) (v := ?_) rfl (by kernel_rfl) (by kernel_rfl) (by kernel_rfl) (fun _ _ _ h => h) (Or.inl ⟨by kernel_rfl, ?_⟩) hHeld ?_
    rotate_left
    focus (intro W hS; have c0_0 := (hS.1).at_ (j := 0) rfl; have c0_1 := (hS.1).at_ (j := 1) rfl; have c0_2 := (hS.1).at_ (j := 2) rfl; have c0_3 := (hS.1).at_ (j := 3) rfl; have c1_0 := (hS.2.1).at_ (j := 0) rfl; have c2_0 := (hS.2.2.1).at_ (j := 0) rfl; have c2_1 := (hS.2.2.1).at_ (j := 1) rfl; have c3_0 := (hS.2.2.2.1).at_ (j := 0) rfl; clear hS; first | (go_simp; done) | (go_simp; with_reducible rfl))
    try simp only [Act.put, List.setIfInBounds_toArray, List.set_cons_zero, List.set_cons_succ]
    refine wpAnyH_take (i := 9) (oi := ⟨some 15, _, _, _, _, _⟩) (v := ?_) rfl (by kernel_rfl) (by kernel_rfl) (by kernel_rfl) (fun _ _ _ h => h) (Or.inl ⟨by kernel_rfl, ?_⟩) hHeld ?_
    rotate_left
    focus (intro W hS; have c0_0 := (hS.1).at_ (j := 0) rfl; have c0_1 := (hS.1).at_ (j := 1) rfl; have c0_2 := (hS.1).at_ (j := 2) rfl; have c0_3 := (hS.1).at_ (j := 3) rfl; have c1_0 := (hS.2.1).at_ (j := 0) rfl; have c2_0 := (hS.2.2.1).at_ (j := 0) rfl; have c2_1 := (hS.2.2.1).at_ (j := 1) rfl; have c3_0 := (hS.2.2.2.1).at_ (j := 0) rfl; clear hS; first | (go_simp; done) | (go_simp; with_reducible rfl))
    try simp only [Act.put, List.setIfInBounds_toArray, List.set_cons_zero, List.set_cons_succ]
    refine wpAnyH_take (i := 10) (oi := ⟨some 16, _, _, _, _, _⟩) (v := undef) rfl (by kernel_rfl) (by kernel_rfl) (by kernel_rfl) (fun _ _ _ h => h) (Or.inr ⟨by kernel_rfl, rfl⟩) hHeld ?_
    try simp only [Act.put, List.setIfInBounds_toArray, List.set_cons_zero, List.set_cons_succ]
    refine wpAnyH_take (i := 11) (oi := ⟨some 17, _, _, _, _, _⟩) (v := undef) rfl (by kernel_rfl) (by kernel_rfl) (by kernel_rfl) (fun _ _ _ h => h) (Or.inr ⟨by kernel_rfl, rfl⟩) hHeld ?_
    try simp only [Act.put, List.setIfInBounds_toArray, List.set_cons_zero, List.set_cons_succ]
    refine wpAnyH_take (i := 13) (oi := ⟨some 19, _, _, _, _, _⟩) (v := undef) rfl (by kernel_rfl) (by kernel_rfl) (by kernel_rfl) (fun _ _ _ h => h) (Or.inr ⟨by kernel_rfl, rfl⟩) hHeld ?_
    try simp only [Act.put, List.setIfInBounds_toArray, List.set_cons_zero, List.set_cons_succ]
    refine wpAnyH_take (i := 12) (oi := ⟨some 18, _, _, _, _, _⟩) (v := undef) rfl (by kernel_rfl) (by kernel_rfl) (by kernel_rfl) (fun _ _ _ h => h) (Or.inr ⟨by kernel_rfl, rfl⟩) hHeld ?_
    try simp only [Act.put, List.setIfInBounds_toArray, List.set_cons_zero, List.set_cons_succ]
    refine wpAnyH_take (i := 14) (oi := ⟨some 20, _, _, _, _, _⟩) (v := undef) rfl (by kernel_rfl) (by kernel_rfl) (by kernel_rfl) (fun _ _ _ h => h) (Or.inr ⟨by kernel_rfl, rfl⟩) hHeld ?_
    try simp only [Act.put, List.setIfInBounds_toArray, List.set_cons_zero, List.set_cons_succ]
    refine wpAnyH_take (i := 15) (oi := ⟨some 21, _, _, _, _, _⟩) (v := ?_) rfl (by kernel_rfl) (by kernel_rfl) (by kernel_rfl) (fun _ _ _ h => h) (Or.inl ⟨by kernel_rfl, ?_⟩) hHeld ?_
    rotate_left
    focus (intro W hS; have c0_0 := (hS.1).at_ (j := 0) rfl; have c0_1 := (hS.1).at_ (j := 1) rfl; have c0_2 := (hS.1).at_ (j := 2) rfl; have c0_3 := (hS.1).at_ (j := 3) rfl; have c1_0 := (hS.2.1).at_ (j := 0) rfl; have c2_0 := (hS.2.2.1).at_ (j := 0) rfl; have c2_1 := (hS.2.2.1).at_ (j := 1) rfl; have c3_0 := (hS.2.2.2.1).at_ (j := 0) rfl; clear hS; first | (go_simp; done) | (go_simp; with_reducible rfl))
    try simp only [Act.put, List.setIfInBounds_toArray, List.set_cons_zero, List.set_cons_succ]
    refine wpAnyH_take (i := 16) (oi := ⟨some 22, _, _, _, _, _⟩) (v := ?_) rfl (by kernel_rfl) (by kernel_rfl) (by kernel_rfl) (fun _ _ _ h => h) (Or.inl ⟨by kernel_rfl, ?_⟩) hHeld ?_
    rotate_left
    focus (intro W hS; have c0_0 := (hS.1).at_ (j := 0) rfl; have c0_1 := (hS.1).at_ (j := 1) rfl; have c0_2 := (hS.1).at_ (j := 2) rfl; have c0_3 := (hS.1).at_ (j := 3) rfl; have c1_0 := (hS.2.1).at_ (j := 0) rfl; have c2_0 := (hS.2.2.1).at_ (j := 0) rfl; have c2_1 := (hS.2.2.1).at_ (j := 1) rfl; have c3_0 := (hS.2.2.2.1).at_ (j := 0) rfl; clear hS; first | (go_simp; done) | (go_simp; with_reducible rfl))
    try simp only [Act.put, List.setIfInBounds_toArray, List.set_cons_zero, List.set_cons_succ]
    refine wpAnyH_take (i := 17) (oi := ⟨some 23, _, _, _, _, _⟩) (v := undef) rfl (by kernel_rfl) (by kernel_rfl) (by kernel_rfl) (fun _ _ _ h => h) (Or.inr ⟨by kernel_rfl, rfl⟩) hHeld ?_
    try simp only [Act.put, List.setIfInBounds_toArray, List.set_cons_zero, List.set_cons_succ]
    refine wpAnyH_take (i := 18) (oi := ⟨some 24, _, _, _, _, _⟩) (v := undef) rfl (by kernel_rfl) (by kernel_rfl) (by kernel_rfl) (fun _ _ _ h => h) (Or.inr ⟨by kernel_rfl, rfl⟩) hHeld ?_
    try simp only [Act.put, List.setIfInBounds_toArray, List.set_cons_zero, List.set_cons_succ]
    refine wpAnyH_take (i := 19) (oi := ⟨some 25, _, _, _, _, _⟩) (v := undef) rfl (by kernel_rfl) (by kernel_rfl) (by kernel_rfl) (fun _ _ _ h => h) (Or.inr ⟨by kernel_rfl, rfl⟩) hHeld ?_
    try simp only [Act.put, List.setIfInBounds_toArray, List.set_cons_zero, List.set_cons_succ]
    refine wpAnyH_take (i := 20) (oi := ⟨some 26, _, _, _, _, _⟩) (v := undef) rfl (by kernel_rfl) (by kernel_rfl) (by kernel_rfl) (fun _ _ _ h => h) (Or.inr ⟨by kernel_rfl, rfl⟩) hHeld ?_
    try simp only [Act.put, List.setIfInBounds_toArray, List.set_cons_zero, List.set_cons_succ]
    refine wpAnyH_take (i := 21) (oi := ⟨some 27, _, _, _, _, _⟩) (v := ?_) rfl (by kernel_rfl) (by kernel_rfl) (by kernel_rfl) (fun _ _ _ h => h) (Or.inl ⟨by kernel_rfl, ?_⟩) hHeld ?_
    rotate_left
    focus (intro W hS; have c0_0 := (hS.1).at_ (j := 0) rfl; have c0_1 := (hS.1).at_ (j := 1) rfl; have c0_2 := (hS.1).at_ (j := 2) rfl; have c0_3 := (hS.1).at_ (j := 3) rfl; have c1_0 := (hS.2.1).at_ (j := 0) rfl; have c2_0 := (hS.2.2.1).at_ (j := 0) rfl; have c2_1 := (hS.2.2.1).at_ (j := 1) rfl; have c3_0 := (hS.2.2.2.1).at_ (j := 0) rfl; clear hS; first | (go_simp; done) | (go_simp; with_reducible rfl))
    try simp only [Act.put, List.setIfInBounds_toArray, List.set_cons_zero, List.set_cons_succ]
    refine wpAnyH_take (i := 22) (oi := ⟨some 5, _, _, _, _, _⟩) (v := ?_) rfl (by kernel_rfl) (by kernel_rfl) (by kernel_rfl) (fun _ _ _ h => h) (Or.inl ⟨by kernel_rfl, ?_⟩) hHeld ?_
    rotate_left
    focus (intro W hS; have c0_0 := (hS.1).at_ (j := 0) rfl; have c0_1 := (hS.1).at_ (j := 1) rfl; have c0_2 := (hS.1).at_ (j := 2) rfl; have c0_3 := (hS.1).at_ (j := 3) rfl; have c1_0 := (hS.2.1).at_ (j := 0) rfl; have c2_0 := (hS.2.2.1).at_ (j := 0) rfl; have c2_1 := (hS.2.2.1).at_ (j := 1) rfl; have c3_0 := (hS.2.2.2.1).at_ (j := 0) rfl; clear hS; first | (go_simp; done) | (go_simp; with_reducible rfl))
    try simp only [Act.put, List.setIfInBounds_toArray, List.set_cons_zero, List.set_cons_succ]
    refine wpAnyH_done (by kernel_rfl) ?_ _
    go_wp2_with fail
    go_ret
    exact ⟨rfl, hHeld.2.2.2.2⟩
  · skip
    refine wpAnyH_take (i := 2) (oi := ⟨some 8, _, _, _, _, _⟩) (v := ?_) rfl (by kernel_rfl) (by kernel_rfl) (by kernel_rfl) (fun _ _ _ h => h) (Or.inl ⟨by kernel_rfl, ?_⟩) hHeld ?_
    rotate_left
    focus (intro W hS; have c0_0 := (hS.1).at_ (j := 0) rfl; have c0_1 := (hS.1).at_ (j := 1) rfl; have c0_2 := (hS.1).at_ (j := 2) rfl; have c0_3 := (hS.1).at_ (j := 3) rfl; have c1_0 := (hS.2.1).at_ (j := 0) rfl; have c2_0 := (hS.2.2.1).at_ (j := 0) rfl; have c2_1 := (hS.2.2.1).at_ (j := 1) rfl; have c3_0 := (hS.2.2.2.1).at_ (j := 0) rfl; clear hS; first | (go_simp; done) | (go_simp; with_reducible rfl))
    try simp only [Act.put, List.setIfInBounds_toArray, List.set_cons_zero, List.set_cons_succ]
    refine wpAnyH_take (i := 3) (oi := ⟨some 9, _, _, _, _, _⟩) (v := ?_) rfl (by kernel_rfl) (by kernel_rfl) (by kernel_rfl) (fun _ _ _ h => h) (Or.inl ⟨by kernel_rfl, ?_⟩) hHeld ?_
    rotate_left
    focus (intro W hS; have c0_0 := (hS.1).at_ (j := 0) rfl; have c0_1 := (hS.1).at_ (j := 1) rfl; have c0_2 := (hS.1).at_ (j := 2) rfl; have c0_3 := (hS.1).at_ (j := 3) rfl; have c1_0 := (hS.2.1).at_ (j := 0) rfl; have c2_0 := (hS.2.2.1).at_ (j := 0) rfl; have c2_1 := (hS.2.2.1).at_ (j := 1) rfl; have c3_0 := (hS.2.2.2.1).at_ (j := 0) rfl; clear hS; first | (go_simp; done) | (go_simp; with_reducible rfl))
    try simp only [Act.put, List.setIfInBounds_toArray, List.set_cons_zero, List.set_cons_succ]
    refine wpAnyH_take (i := 4) (oi := ⟨some 10, _, _, _, _, _⟩) (v := ?_) rfl (by kernel_rfl) (by kernel_rfl) (by kernel_rfl) (fun _ _ _ h => h) (Or.inl ⟨by kernel_rfl, ?_⟩) hHeld ?_
    rotate_left
    focus (intro W hS; have c0_0 := (hS.1).at_ (j := 0) rfl; have c0_1 := (hS.1).at_ (j := 1) rfl; have c0_2 := (hS.1).at_ (j := 2) rfl; have c0_3 := (hS.1).at_ (j := 3) rfl; have c1_0 := (hS.2.1).at_ (j := 0) rfl; have c2_0 := (hS.2.2.1).at_ (j := 0) rfl; have c2_1 := (hS.2.2.1).at_ (j := 1) rfl; have c3_0 := (hS.2.2.2.1).at_ (j := 0) rfl; clear hS; first | (go_simp; done) | (go_simp; with_reducible rfl))
    try simp only [Act.put, List.setIfInBounds_toArray, List.set_cons_zero, List.set_cons_succ]
    refine wpAnyH_take (i := 6) (oi := ⟨some 12, _, _, _, _, _⟩) (v := ?_) rfl (by kernel_rfl) (by kernel_rfl) (by kernel_rfl) (fun _ _ _ h => h) (Or.inl ⟨by kernel_rfl, ?_⟩) hHeld ?_
    rotate_left
    focus (intro W hS; have c0_0 := (hS.1).at_ (j := 0) rfl; have c0_1 := (hS.1).at_ (j := 1) rfl; have c0_2 := (hS.1).at_ (j := 2) rfl; have c0_3 := (hS.1).at_ (j := 3) rfl; have c1_0 := (hS.2.1).at_ (j := 0) rfl; have c2_0 := (hS.2.2.1).at_ (j := 0) rfl; have c2_1 := (hS.2.2.1).at_ (j := 1) rfl; have c3_0 := (hS.2.2.2.1).at_ (j := 0) rfl; clear hS; first | (go_simp; done) | (go_simp; with_reducible rfl))
    try simp only [Act.put, List.setIfInBounds_toArray, List.set_cons_zero, List.set_cons_succ]
    refine wpAnyH_ready (rs := [5]) (by kernel_rfl) (by simp) ?_
    refine AllReadyH.cons (o := ⟨some 11, _, _, _, _, _⟩) rfl (fun K hK => ?_) AllReadyH.nil
    go_simp
    refine Calls.mono (impl_optionOf _ _ _) ?_
    rintro e w1 ⟨rfl, hb1⟩
    refine hK.out _ _ ⟨hHeld.1.new hb1, hHeld.2.1.new hb1, hHeld.2.2.1.new hb1, hHeld.2.2.2.1.new hb1, below_trans hHeld.2.2.2.2 hb1 (Nat.le_refl _)⟩ (fun hHeld' => ?_)
    clear hK K hHeld hb1
    have hHeld := hHeld'
    clear hHeld'
    try simp only [Act.put, List.setIfInBounds_toArray, List.set_cons_zero, List.set_cons_succ]
    refine wpAnyH_ready (rs := [7]) (by kernel_rfl) (by simp) ?_
    refine AllReadyH.cons (o := ⟨some 13, _, _, _, _, _⟩) rfl (fun K hK => ?_) AllReadyH.nil
    go_simp
    refine Calls.mono (C1 _) ?_
    rintro e w1 ⟨rfl, hb1⟩
    refine hK.out _ _ ⟨hHeld.1.new hb1, hHeld.2.1.new hb1, hHeld.2.2.1.new hb1, hHeld.2.2.2.1.new hb1, below_trans hHeld.2.2.2.2 hb1 (Nat.le_refl _)⟩ (fun hHeld' => ?_)
    clear hK K hHeld hb1
    have hHeld := hHeld'
    clear hHeld'
    try simp only [Act.put, List.setIfInBounds_toArray, List.set_cons_zero, List.set_cons_succ]
    cases b1
    · skip
      refine wpAnyH_take (i := 8) (oi := ⟨some 14, _, _, _, _, _⟩) (v := ?_) rfl (by kernel_rfl) (by kernel_rfl) (by kernel_rfl) (fun _ _ _ h => h) (Or.inl ⟨by kernel_rfl, ?_⟩) hHeld ?_
      rotate_left
      focus (intro W hS; have c0_0 := (hS.1).at_ (j := 0) rfl; have c0_1 := (hS.1).at_ (j := 1) rfl; have c0_2 := (hS.1).at_ (j := 2) rfl; have c0_3 := (hS.1).at_ (j := 3) rfl; have c1_0 := (hS.2.1).at_ (j := 0) rfl; have c2_0 := (hS.2.2.1).at_ (j := 0) rfl; have c2_1 := (hS.2.2.1).at_ (j := 1) rfl; have c3_0 := (hS.2.2.2.1).at_ (j := 0) rfl; clear hS; first | (go_simp; done) | (go_simp; with_reducible rfl))
      try simp only [Act.put, List.setIfInBounds_toArray, List.set_cons_zero, List.set_cons_succ]
      refine wpAnyH_take (i := 9) (oi := ⟨some 15, _, _, _, _, _⟩) (v := ?_) rfl (by kernel_rfl) (by kernel_rfl) (by kernel_rfl) (fun _ _ _ h => h) (Or.inl ⟨by kernel_rfl, ?_⟩) hHeld ?_
      rotate_left
      focus (intro W hS; have c0_0 := (hS.1).at_ (j := 0) rfl; have c0_1 := (hS.1).at_ (j := 1) rfl; have c0_2 := (hS.1).at_ (j := 2) rfl; have c0_3 := (hS.1).at_ (j := 3) rfl; have c1_0 := (hS.2.1).at_ (j := 0) rfl; have c2_0 := (hS.2.2.1).at_ (j := 0) rfl; have c2_1 := (hS.2.2.1).at_ (j := 1) rfl; have c3_0 := (hS.2.2.2.1).at_ (j := 0) rfl; clear hS; first | (go_simp; done) | (go_simp; with_reducible rfl))
      try simp only [Act.put, List.setIfInBounds_toArray, List.set_cons_zero, List.set_cons_succ]
      refine wpAnyH_take (i := 10) (oi := ⟨some 16, _, _, _, _, _⟩) (v := undef) rfl (by kernel_rfl) (by kernel_rfl) (by kernel_rfl) (fun _ _ _ h => h) (Or.inr ⟨by kernel_rfl, rfl⟩) hHeld ?_
      try simp only [Act.put, List.setIfInBounds_toArray, List.set_cons_zero, List.set_cons_succ]
      refine wpAnyH_take (i := 11) (oi := ⟨some 17, _, _, _, _, _⟩) (v := undef) rfl (by kernel_rfl) (by kernel_rfl) (by kernel_rfl) (fun _ _ _ h => h) (Or.inr ⟨by kernel_rfl, rfl⟩) hHeld ?_
      try simp only [Act.put, List.setIfInBounds_toArray, List.set_cons_zero, List.set_cons_succ]
      refine wpAnyH_take (i := 13) (oi := ⟨some 19, _, _, _, _, _⟩) (v := undef) rfl (by kernel_rfl) (by kernel_rfl) (by kernel_rfl) (fun _ _ _ h => h) (Or.inr ⟨by kernel_rfl, rfl⟩) hHeld ?_
      try simp only [Act.put, List.setIfInBounds_toArray, List.set_cons_zero, List.set_cons_succ]
      refine wpAnyH_take (i := 12) (oi := ⟨some 18, _, _, _, _, _⟩) (v := undef) rfl (by kernel_rfl) (by kernel_rfl) (by kernel_rfl) (fun _ _ _ h => h) (Or.inr ⟨by kernel_rfl, rfl⟩) hHeld ?_
      try simp only [Act.put, List.setIfInBounds_toArray, List.set_cons_zero, List.set_cons_succ]
      refine wpAnyH_take (i := 14) (oi := ⟨some 20, _, _, _, _, _⟩) (v := undef) rfl (by kernel_rfl) (by kernel_rfl) (by kernel_rfl) (fun _ _ _ h => h) (Or.inr ⟨by kernel_rfl, rfl⟩) hHeld ?_
      try simp only [Act.put, List.setIfInBounds_toArray, List.set_cons_zero, List.set_cons_succ]
      refine wpAnyH_take (i := 15) (oi := ⟨some 21, _, _, _, _, _⟩) (v := ?_) rfl (by kernel_rfl) (by kernel_rfl) (by kernel_rfl) (fun _ _ _ h => h) (Or.inl ⟨by kernel_rfl, ?_⟩) hHeld ?_
      rotate_left
      focus (intro W hS; have c0_0 := (hS.1).at_ (j := 0) rfl; have c0_1 := (hS.1).at_ (j := 1) rfl; have c0_2 := (hS.1).at_ (j := 2) rfl; have c0_3 := (hS.1).at_ (j := 3) rfl; have c1_0 := (hS.2.1).at_ (j := 0) rfl; have c2_0 := (hS.2.2.1).at_ (j := 0) rfl; have c2_1 := (hS.2.2.1).at_ (j := 1) rfl; have c3_0 := (hS.2.2.2.1).at_ (j := 0) rfl; clear hS; first | (go_simp; done) | (go_simp; with_reducible rfl))
      try simp only [Act.put, List.setIfInBounds_toArray, List.set_cons_zero, List.set_cons_succ]
      refine wpAnyH_take (i := 16) (oi := ⟨some 22, _, _, _, _, _⟩) (v := ?_) rfl (by kernel_rfl) (by kernel_rfl) (by kernel_rfl) (fun _ _ _ h => h) (Or.inl ⟨by kernel_rfl, ?_⟩) hHeld ?_
      rotate_left
      focus (intro W hS; have c0_0 := (hS.1).at_ (j := 0) rfl; have c0_1 := (hS.1).at_ (j := 1) rfl; have c0_2 := (hS.1).at_ (j := 2) rfl; have c0_3 := (hS.1).at_ (j := 3) rfl; have c1_0 := (hS.2.1).at_ (j := 0) rfl; have c2_0 := (hS.2.2.1).at_ (j := 0) rfl; have c2_1 := (hS.2.2.1).at_ (j := 1) rfl; have c3_0 := (hS.2.2.2.1).at_ (j := 0) rfl; clear hS; first | (go_simp; done) | (go_simp; with_reducible rfl))
      try simp only [Act.put, List.setIfInBounds_toArray, List.set_cons_zero, List.set_cons_succ]
      refine wpAnyH_take (i := 17) (oi := ⟨some 23, _, _, _, _, _⟩) (v := undef) rfl (by kernel_rfl) (by kernel_rfl) (by kernel_rfl) (fun _ _ _ h => h) (Or.inr ⟨by kernel_rfl, rfl⟩) hHeld ?_
      try simp only [Act.put, List.setIfInBounds_toArray, List.set_cons_zero, List.set_cons_succ]
      refine wpAnyH_take (i := 18) (oi := ⟨some 24, _, _, _, _, _⟩) (v := undef) rfl (by kernel_rfl) (by kernel_rfl) (by kernel_rfl) (fun _ _ _ h => h) (Or.inr ⟨by kernel_rfl, rfl⟩) hHeld ?_
      try simp only [Act.put, List.setIfInBounds_toArray, List.set_cons_zero, List.set_cons_succ]
      refine wpAnyH_take (i := 19) (oi := ⟨some 25, _, _, _, _, _⟩) (v := undef) rfl (by kernel_rfl) (by kernel_rfl) (by kernel_rfl) (fun _ _ _ h => h) (Or.inr ⟨by kernel_rfl, rfl⟩) hHeld ?_
      try simp only [Act.put, List.setIfInBounds_toArray, List.set_cons_zero, List.set_cons_succ]
      refine wpAnyH_take (i := 20) (oi := ⟨some 26, _, _, _, _, _⟩) (v := undef) rfl (by kernel_rfl) (by kernel_rfl) (by kernel_rfl) (fun _ _ _ h => h) (Or.inr ⟨by kernel_rfl, rfl⟩) hHeld ?_
      try simp only [Act.put, List.setIfInBounds_toArray, List.set_cons_zero, List.set_cons_succ]
      refine wpAnyH_take (i := 21) (oi := ⟨some 27, _, _, _, _, _⟩) (v := ?_) rfl (by kernel_rfl) (by kernel_rfl) (by kernel_rfl) (fun _ _ _ h => h) (Or.inl ⟨by kernel_rfl, ?_⟩) hHeld ?_
      rotate_left
      focus (intro W hS; have c0_0 := (hS.1).at_ (j := 0) rfl; have c0_1 := (hS.1).at_ (j := 1) rfl; have c0_2 := (hS.1).at_ (j := 2) rfl; have c0_3 := (hS.1).at_ (j := 3) rfl; have c1_0 := (hS.2.1).at_ (j := 0) rfl; have c2_0 := (hS.2.2.1).at_ (j := 0) rfl; have c2_1 := (hS.2.2.1).at_ (j := 1) rfl; have c3_0 := (hS.2.2.2.1).at_ (j := 0) rfl; clear hS; first | (go_simp; done) | (go_simp; with_reducible rfl))
      try simp only [Act.put, List.setIfInBounds_toArray, List.set_cons_zero, List.set_cons_succ]
      refine wpAnyH_take (i := 22) (oi := ⟨some 5, _, _, _, _, _⟩) (v := ?_) rfl (by kernel_rfl) (by kernel_rfl) (by kernel_rfl) (fun _ _ _ h => h) (Or.inl ⟨by kernel_rfl, ?_⟩) hHeld ?_
      rotate_left
      focus (intro W hS; have c0_0 := (hS.1).at_ (j := 0) rfl; have c0_1 := (hS.1).at_ (j := 1) rfl; have c0_2 := (hS.1).at_ (j := 2) rfl; have c0_3 := (hS.1).at_ (j := 3) rfl; have c1_0 := (hS.2.1).at_ (j := 0) rfl; have c2_0 := (hS.2.2.1).at_ (j := 0) rfl; have c2_1 := (hS.2.2.1).at_ (j := 1) rfl; have c3_0 := (hS.2.2.2.1).at_ (j := 0) rfl; clear hS; first | (go_simp; done) | (go_simp; with_reducible rfl))
      try simp only [Act.put, List.setIfInBounds_toArray, List.set_cons_zero, List.set_cons_succ]
      refine wpAnyH_done (by kernel_rfl) ?_ _
      go_wp2_with fail
      go_ret
      exact ⟨rfl, hHeld.2.2.2.2⟩
    · skip
      refine wpAnyH_take (i := 8) (oi := ⟨some 14, _, _, _, _, _⟩) (v := ?_) rfl (by kernel_rfl) (by kernel_rfl) (by kernel_rfl) (fun _ _ _ h => h) (Or.inl ⟨by kernel_rfl, ?_⟩) hHeld ?_
      rotate_left
      focus (intro W hS; have c0_0 := (hS.1).at_ (j := 0) rfl; have c0_1 := (hS.1).at_ (j := 1) rfl; have c0_2 := (hS.1).at_ (j := 2) rfl; have c0_3 := (hS.1).at_ (j := 3) rfl; have c1_0 := (hS.2.1).at_ (j := 0) rfl; have c2_0 := (hS.2.2.1).at_ (j := 0) rfl; have c2_1 := (hS.2.2.1).at_ (j := 1) rfl; have c3_0 := (hS.2.2.2.1).at_ (j := 0) rfl; clear hS; first | (go_simp; done) | (go_simp; with_reducible rfl))
      try simp only [Act.put, List.setIfInBounds_toArray, List.set_cons_zero, List.set_cons_succ]
      refine wpAnyH_take (i := 9) (oi := ⟨some 15, _, _, _, _, _⟩) (v := ?_) rfl (by kernel_rfl) (by kernel_rfl) (by kernel_rfl) (fun _ _ _ h => h) (Or.inl ⟨by kernel_rfl, ?_⟩) hHeld ?_
      rotate_left
      focus (intro W hS; have c0_0 := (hS.1).at_ (j := 0) rfl; have c0_1 := (hS.1).at_ (j := 1) rfl; have c0_2 := (hS.1).at_ (j := 2) rfl; have c0_3 := (hS.1).at_ (j := 3) rfl; have c1_0 := (hS.2.1).at_ (j := 0) rfl; have c2_0 := (hS.2.2.1).at_ (j := 0) rfl; have c2_1 := (hS.2.2.1).at_ (j := 1) rfl; have c3_0 := (hS.2.2.2.1).at_ (j := 0) rfl; clear hS; first | (go_simp; done) | (go_simp; with_reducible rfl))
      try simp only [Act.put, List.setIfInBounds_toArray, List.set_cons_zero, List.set_cons_succ]
      refine wpAnyH_take (i := 10) (oi := ⟨some 16, _, _, _, _, _⟩) (v := ?_) rfl (by kernel_rfl) (by kernel_rfl) (by kernel_rfl) (fun _ _ _ h => h) (Or.inl ⟨by kernel_rfl, ?_⟩) hHeld ?_
      rotate_left
      focus (intro W hS; have c0_0 := (hS.1).at_ (j := 0) rfl; have c0_1 := (hS.1).at_ (j := 1) rfl; have c0_2 := (hS.1).at_ (j := 2) rfl; have c0_3 := (hS.1).at_ (j := 3) rfl; have c1_0 := (hS.2.1).at_ (j := 0) rfl; have c2_0 := (hS.2.2.1).at_ (j := 0) rfl; have c2_1 := (hS.2.2.1).at_ (j := 1) rfl; have c3_0 := (hS.2.2.2.1).at_ (j := 0) rfl; clear hS; first | (go_simp; done) | (go_simp; with_reducible rfl))
      try simp only [Act.put, List.setIfInBounds_toArray, List.set_cons_zero, List.set_cons_succ]
      refine wpAnyH_take (i := 11) (oi := ⟨some 17, _, _, _, _, _⟩) (v := ?_) rfl (by kernel_rfl) (by kernel_rfl) (by kernel_rfl) (fun _ _ _ h => h) (Or.inl ⟨by kernel_rfl, ?_⟩) hHeld ?_
      rotate_left
      focus (intro W hS; have c0_0 := (hS.1).at_ (j := 0) rfl; have c0_1 := (hS.1).at_ (j := 1) rfl; have c0_2 := (hS.1).at_ (j := 2) rfl; have c0_3 := (hS.1).at_ (j := 3) rfl; have c1_0 := (hS.2.1).at_ (j := 0) rfl; have c2_0 := (hS.2.2.1).at_ (j := 0) rfl; have c2_1 := (hS.2.2.1).at_ (j := 1) rfl; have c3_0 := (hS.2.2.2.1).at_ (j := 0) rfl; clear hS; first | (go_simp; done) | (go_simp; with_reducible rfl))
      try simp only [Act.put, List.setIfInBounds_toArray, List.set_cons_zero, List.set_cons_succ]
      refine wpAnyH_take (i := 13) (oi := ⟨some 19, _, _, _, _, _⟩) (v := ?_) rfl (by kernel_rfl) (by kernel_rfl) (by kernel_rfl) (fun _ _ _ h => h) (Or.inl ⟨by kernel_rfl, ?_⟩) hHeld ?_
      rotate_left
      focus (intro W hS; have c0_0 := (hS.1).at_ (j := 0) rfl; have c0_1 := (hS.1).at_ (j := 1) rfl; have c0_2 := (hS.1).at_ (j := 2) rfl; have c0_3 := (hS.1).at_ (j := 3) rfl; have c1_0 := (hS.2.1).at_ (j := 0) rfl; have c2_0 := (hS.2.2.1).at_ (j := 0) rfl; have c2_1 := (hS.2.2.1).at_ (j := 1) rfl; have c3_0 := (hS.2.2.2.1).at_ (j := 0) rfl; clear hS; first | (go_simp; done) | (go_simp; with_reducible rfl))
      try simp only [Act.put, List.setIfInBounds_toArray, List.set_cons_zero, List.set_cons_succ]
      refine wpAnyH_ready (rs := [12]) (by kernel_rfl) (by simp) ?_
      refine AllReadyH.cons (o := ⟨some 18, _, _, _, _, _⟩) rfl (fun K hK => ?_) AllReadyH.nil
      go_simp
      refine Calls.mono (impl_optionOf _ _ _) ?_
      rintro e w1 ⟨rfl, hb1⟩
      refine hK.out _ _ ⟨hHeld.1.new hb1, hHeld.2.1.new hb1, hHeld.2.2.1.new hb1, hHeld.2.2.2.1.new hb1, below_trans hHeld.2.2.2.2 hb1 (Nat.le_refl _)⟩ (fun hHeld' => ?_)
      clear hK K hHeld hb1
      have hHeld := hHeld'
      clear hHeld'
      try simp only [Act.put, List.setIfInBounds_toArray, List.set_cons_zero, List.set_cons_succ]
      refine wpAnyH_ready (rs := [14]) (by kernel_rfl) (by simp) ?_
      refine AllReadyH.cons (o := ⟨some 20, _, _, _, _, _⟩) rfl (fun K hK => ?_) AllReadyH.nil
      go_simp
      refine Calls.mono (C2 _) ?_
      rintro e w1 ⟨rfl, hb1⟩
      refine hK.out _ _ ⟨hHeld.1.new hb1, hHeld.2.1.new hb1, hHeld.2.2.1.new hb1, hHeld.2.2.2.1.new hb1, below_trans hHeld.2.2.2.2 hb1 (Nat.le_refl _)⟩ (fun hHeld' => ?_)
      clear hK K hHeld hb1
      have hHeld := hHeld'
      clear hHeld'
      try simp only [Act.put, List.setIfInBounds_toArray, List.set_cons_zero, List.set_cons_succ]
      cases b2
      · skip
        refine wpAnyH_take (i := 15) (oi := ⟨some 21, _, _, _, _, _⟩) (v := ?_) rfl (by kernel_rfl) (by kernel_rfl) (by kernel_rfl) (fun _ _ _ h => h) (Or.inl ⟨by kernel_rfl, ?_⟩) hHeld ?_
        rotate_left
        focus (intro W hS; have c0_0 := (hS.1).at_ (j := 0) rfl; have c0_1 := (hS.1).at_ (j := 1) rfl; have c0_2 := (hS.1).at_ (j := 2) rfl; have c0_3 := (hS.1).at_ (j := 3) rfl; have c1_0 := (hS.2.1).at_ (j := 0) rfl; have c2_0 := (hS.2.2.1).at_ (j := 0) rfl; have c2_1 := (hS.2.2.1).at_ (j := 1) rfl; have c3_0 := (hS.2.2.2.1).at_ (j := 0) rfl; clear hS; first | (go_simp; done) | (go_simp; with_reducible rfl))
        try simp only [Act.put, List.setIfInBounds_toArray, List.set_cons_zero, List.set_cons_succ]
        refine wpAnyH_take (i := 16) (oi := ⟨some 22, _, _, _, _, _⟩) (v := ?_) rfl (by kernel_rfl) (by kernel_rfl) (by kernel_rfl) (fun _ _ _ h => h) (Or.inl ⟨by kernel_rfl, ?_⟩) hHeld ?_
        rotate_left
        focus (intro W hS; have c0_0 := (hS.1).at_ (j := 0) rfl; have c0_1 := (hS.1).at_ (j := 1) rfl; have c0_2 := (hS.1).at_ (j := 2) rfl; have c0_3 := (hS.1).at_ (j := 3) rfl; have c1_0 := (hS.2.1).at_ (j := 0) rfl; have c2_0 := (hS.2.2.1).at_ (j := 0) rfl; have c2_1 := (hS.2.2.1).at_ (j := 1) rfl; have c3_0 := (hS.2.2.2.1).at_ (j := 0) rfl; clear hS; first | (go_simp; done) | (go_simp; with_reducible rfl))
        try simp only [Act.put, List.setIfInBounds_toArray, List.set_cons_zero, List.set_cons_succ]
        refine wpAnyH_take (i := 17) (oi := ⟨some 23, _, _, _, _, _⟩) (v := undef) rfl (by kernel_rfl) (by kernel_rfl) (by kernel_rfl) (fun _ _ _ h => h) (Or.inr ⟨by kernel_rfl, rfl⟩) hHeld ?_
        try simp only [Act.put, List.setIfInBounds_toArray, List.set_cons_zero, List.set_cons_succ]
        refine wpAnyH_take (i := 18) (oi := ⟨some 24, _, _, _, _, _⟩) (v := undef) rfl (by kernel_rfl) (by kernel_rfl) (by kernel_rfl) (fun _ _ _ h => h) (Or.inr ⟨by kernel_rfl, rfl⟩) hHeld ?_
        try simp only [Act.put, List.setIfInBounds_toArray, List.set_cons_zero, List.set_cons_succ]
        refine wpAnyH_take (i := 19) (oi := ⟨some 25, _, _, _, _, _⟩) (v := undef) rfl (by kernel_rfl) (by kernel_rfl) (by kernel_rfl) (fun _ _ _ h => h) (Or.inr ⟨by kernel_rfl, rfl⟩) hHeld ?_
        try simp only [Act.put, List.setIfInBounds_toArray, List.set_cons_zero, List.set_cons_succ]
        refine wpAnyH_take (i := 20) (oi := ⟨some 26, _, _, _, _, _⟩) (v := undef) rfl (by kernel_rfl) (by kernel_rfl) (by kernel_rfl) (fun _ _ _ h => h) (Or.inr ⟨by kernel_rfl, rfl⟩) hHeld ?_
        try simp only [Act.put, List.setIfInBounds_toArray, List.set_cons_zero, List.set_cons_succ]
        refine wpAnyH_take (i := 21) (oi := ⟨some 27, _, _, _, _, _⟩) (v := ?_) rfl (by kernel_rfl) (by kernel_rfl) (by kernel_rfl) (fun _ _ _ h => h) (Or.inl ⟨by kernel_rfl, ?_⟩) hHeld ?_
        rotate_left
        focus (intro W hS; have c0_0 := (hS.1).at_ (j := 0) rfl; have c0_1 := (hS.1).at_ (j := 1) rfl; have c0_2 := (hS.1).at_ (j := 2) rfl; have c0_3 := (hS.1).at_ (j := 3) rfl; have c1_0 := (hS.2.1).at_ (j := 0) rfl; have c2_0 := (hS.2.2.1).at_ (j := 0) rfl; have c2_1 := (hS.2.2.1).at_ (j := 1) rfl; have c3_0 := (hS.2.2.2.1).at_ (j := 0) rfl; clear hS; first | (go_simp; done) | (go_simp; with_reducible rfl))
        try simp only [Act.put, List.setIfInBounds_toArray, List.set_cons_zero, List.set_cons_succ]
        refine wpAnyH_take (i := 22) (oi := ⟨some 5, _, _, _, _, _⟩) (v := ?_) rfl (by kernel_rfl) (by kernel_rfl) (by kernel_rfl) (fun _ _ _ h => h) (Or.inl ⟨by kernel_rfl, ?_⟩) hHeld ?_
        rotate_left
        focus (intro W hS; have c0_0 := (hS.1).at_ (j := 0) rfl; have c0_1 := (hS.1).at_ (j := 1) rfl; have c0_2 := (hS.1).at_ (j := 2) rfl; have c0_3 := (hS.1).at_ (j := 3) rfl; have c1_0 := (hS.2.1).at_ (j := 0) rfl; have c2_0 := (hS.2.2.1).at_ (j := 0) rfl; have c2_1 := (hS.2.2.1).at_ (j := 1) rfl; have c3_0 := (hS.2.2.2.1).at_ (j := 0) rfl; clear hS; first | (go_simp; done) | (go_simp; with_reducible rfl))
        try simp only [Act.put, List.setIfInBounds_toArray, List.set_cons_zero, List.set_cons_succ]
        refine wpAnyH_done (by kernel_rfl) ?_ _
        go_wp2_with fail
        go_ret
        exact ⟨rfl, hHeld.2.2.2.2⟩
      · skip
        refine wpAnyH_take (i := 15) (oi := ⟨some 21, _, _, _, _, _⟩) (v := ?_) rfl (by kernel_rfl) (by kernel_rfl) (by kernel_rfl) (fun _ _ _ h => h) (Or.inl ⟨by kernel_rfl, ?_⟩) hHeld ?_
        rotate_left
        focus (intro W hS; have c0_0 := (hS.1).at_ (j := 0) rfl; have c0_1 := (hS.1).at_ (j := 1) rfl; have c0_2 := (hS.1).at_ (j := 2) rfl; have c0_3 := (hS.1).at_ (j := 3) rfl; have c1_0 := (hS.2.1).at_ (j := 0) rfl; have c2_0 := (hS.2.2.1).at_ (j := 0) rfl; have c2_1 := (hS.2.2.1).at_ (j := 1) rfl; have c3_0 := (hS.2.2.2.1).at_ (j := 0) rfl; clear hS; first | (go_simp; done) | (go_simp; with_reducible rfl))
        try simp only [Act.put, List.setIfInBounds_toArray, List.set_cons_zero, List.set_cons_succ]
        refine wpAnyH_take (i := 16) (oi := ⟨some 22, _, _, _, _, _⟩) (v := ?_) rfl (by kernel_rfl) (by kernel_rfl) (by kernel_rfl) (fun _ _ _ h => h) (Or.inl ⟨by kernel_rfl, ?_⟩) hHeld ?_
        rotate_left
        focus (intro W hS; have c0_0 := (hS.1).at_ (j := 0) rfl; have c0_1 := (hS.1).at_ (j := 1) rfl; have c0_2 := (hS.1).at_ (j := 2) rfl; have c0_3 := (hS.1).at_ (j := 3) rfl; have c1_0 := (hS.2.1).at_ (j := 0) rfl; have c2_0 := (hS.2.2.1).at_ (j := 0) rfl; have c2_1 := (hS.2.2.1).at_ (j := 1) rfl; have c3_0 := (hS.2.2.2.1).at_ (j := 0) rfl; clear hS; first | (go_simp; done) | (go_simp; with_reducible rfl))
        try simp only [Act.put, List.setIfInBounds_toArray, List.set_cons_zero, List.set_cons_succ]
        refine wpAnyH_take (i := 17) (oi := ⟨some 23, _, _, _, _, _⟩) (v := ?_) rfl (by kernel_rfl) (by kernel_rfl) (by kernel_rfl) (fun _ _ _ h => h) (Or.inl ⟨by kernel_rfl, ?_⟩) hHeld ?_
        rotate_left
        focus (intro W hS; have c0_0 := (hS.1).at_ (j := 0) rfl; have c0_1 := (hS.1).at_ (j := 1) rfl; have c0_2 := (hS.1).at_ (j := 2) rfl; have c0_3 := (hS.1).at_ (j := 3) rfl; have c1_0 := (hS.2.1).at_ (j := 0) rfl; have c2_0 := (hS.2.2.1).at_ (j := 0) rfl; have c2_1 := (hS.2.2.1).at_ (j := 1) rfl; have c3_0 := (hS.2.2.2.1).at_ (j := 0) rfl; clear hS; first | (go_simp; done) | (go_simp; with_reducible rfl))
        try simp only [Act.put, List.setIfInBounds_toArray, List.set_cons_zero, List.set_cons_succ]
        refine wpAnyH_take (i := 18) (oi := ⟨some 24, _, _, _, _, _⟩) (v := ?_) rfl (by kernel_rfl) (by kernel_rfl) (by kernel_rfl) (fun _ _ _ h => h) (Or.inl ⟨by kernel_rfl, ?_⟩) hHeld ?_
        rotate_left
        focus (intro W hS; have c0_0 := (hS.1).at_ (j := 0) rfl; have c0_1 := (hS.1).at_ (j := 1) rfl; have c0_2 := (hS.1).at_ (j := 2) rfl; have c0_3 := (hS.1).at_ (j := 3) rfl; have c1_0 := (hS.2.1).at_ (j := 0) rfl; have c2_0 := (hS.2.2.1).at_ (j := 0) rfl; have c2_1 := (hS.2.2.1).at_ (j := 1) rfl; have c3_0 := (hS.2.2.2.1).at_ (j := 0) rfl; clear hS; first | (go_simp; done) | (go_simp; with_reducible rfl))
        try simp only [Act.put, List.setIfInBounds_toArray, List.set_cons_zero, List.set_cons_succ]
        refine wpAnyH_take (i := 19) (oi := ⟨some 25, _, _, _, _, _⟩) (v := ?_) rfl (by kernel_rfl) (by kernel_rfl) (by kernel_rfl) (fun _ _ _ h => h) (Or.inl ⟨by kernel_rfl, ?_⟩) hHeld ?_
        rotate_left
        focus (intro W hS; have c0_0 := (hS.1).at_ (j := 0) rfl; have c0_1 := (hS.1).at_ (j := 1) rfl; have c0_2 := (hS.1).at_ (j := 2) rfl; have c0_3 := (hS.1).at_ (j := 3) rfl; have c1_0 := (hS.2.1).at_ (j := 0) rfl; have c2_0 := (hS.2.2.1).at_ (j := 0) rfl; have c2_1 := (hS.2.2.1).at_ (j := 1) rfl; have c3_0 := (hS.2.2.2.1).at_ (j := 0) rfl; clear hS; first | (go_simp; done) | (go_simp; with_reducible rfl))
        try simp only [Act.put, List.setIfInBounds_toArray, List.set_cons_zero, List.set_cons_succ]
        refine wpAnyH_ready (rs := [20]) (by kernel_rfl) (by simp) ?_
        refine AllReadyH.cons (o := ⟨some 26, _, _, _, _, _⟩) rfl (fun K hK => ?_) AllReadyH.nil
        go_simp
        refine Calls.mono (C3 _) ?_
        rintro e w1 ⟨rfl, hb1⟩
        refine hK.out _ _ ⟨hHeld.1.new hb1, hHeld.2.1.new hb1, hHeld.2.2.1.new hb1, hHeld.2.2.2.1.new hb1, below_trans hHeld.2.2.2.2 hb1 (Nat.le_refl _)⟩ (fun hHeld' => ?_)
        clear hK K hHeld hb1
        have hHeld := hHeld'
        clear hHeld'
        try simp only [Act.put, List.setIfInBounds_toArray, List.set_cons_zero, List.set_cons_succ]
        cases b3
        · skip
          refine wpAnyH_take (i := 21) (oi := ⟨some 27, _, _, _, _, _⟩) (v := ?_) rfl (by kernel_rfl) (by kernel_rfl) (by kernel_rfl) (fun _ _ _ h => h) (Or.inl ⟨by kernel_rfl, ?_⟩) hHeld ?_
          rotate_left
          focus (intro W hS; have c0_0 := (hS.1).at_ (j := 0) rfl; have c0_1 := (hS.1).at_ (j := 1) rfl; have c0_2 := (hS.1).at_ (j := 2) rfl; have c0_3 := (hS.1).at_ (j := 3) rfl; have c1_0 := (hS.2.1).at_ (j := 0) rfl; have c2_0 := (hS.2.2.1).at_ (j := 0) rfl; have c2_1 := (hS.2.2.1).at_ (j := 1) rfl; have c3_0 := (hS.2.2.2.1).at_ (j := 0) rfl; clear hS; first | (go_simp; done) | (go_simp; with_reducible rfl))
          try simp only [Act.put, List.setIfInBounds_toArray, List.set_cons_zero, List.set_cons_succ]
          refine wpAnyH_take (i := 22) (oi := ⟨some 5, _, _, _, _, _⟩) (v := ?_) rfl (by kernel_rfl) (by kernel_rfl) (by kernel_rfl) (fun _ _ _ h => h) (Or.inl ⟨by kernel_rfl, ?_⟩) hHeld ?_
          rotate_left
          focus (intro W hS; have c0_0 := (hS.1).at_ (j := 0) rfl; have c0_1 := (hS.1).at_ (j := 1) rfl; have c0_2 := (hS.1).at_ (j := 2) rfl; have c0_3 := (hS.1).at_ (j := 3) rfl; have c1_0 := (hS.2.1).at_ (j := 0) rfl; have c2_0 := (hS.2.2.1).at_ (j := 0) rfl; have c2_1 := (hS.2.2.1).at_ (j := 1) rfl; have c3_0 := (hS.2.2.2.1).at_ (j := 0) rfl; clear hS; first | (go_simp; done) | (go_simp; with_reducible rfl))
          try simp only [Act.put, List.setIfInBounds_toArray, List.set_cons_zero, List.set_cons_succ]
          refine wpAnyH_done (by kernel_rfl) ?_ _
          go_wp2_with fail
          go_ret
          exact ⟨rfl, hHeld.2.2.2.2⟩
        · skip
          refine wpAnyH_take (i := 21) (oi := ⟨some 27, _, _, _, _, _⟩) (v := ?_) rfl (by kernel_rfl) (by kernel_rfl) (by kernel_rfl) (fun _ _ _ h => h) (Or.inl ⟨by kernel_rfl, ?_⟩) hHeld ?_
          rotate_left
          focus (intro W hS; have c0_0 := (hS.1).at_ (j := 0) rfl; have c0_1 := (hS.1).at_ (j := 1) rfl; have c0_2 := (hS.1).at_ (j := 2) rfl; have c0_3 := (hS.1).at_ (j := 3) rfl; have c1_0 := (hS.2.1).at_ (j := 0) rfl; have c2_0 := (hS.2.2.1).at_ (j := 0) rfl; have c2_1 := (hS.2.2.1).at_ (j := 1) rfl; have c3_0 := (hS.2.2.2.1).at_ (j := 0) rfl; clear hS; first | (go_simp; done) | (go_simp; with_reducible rfl))
          try simp only [Act.put, List.setIfInBounds_toArray, List.set_cons_zero, List.set_cons_succ]
          refine wpAnyH_take (i := 22) (oi := ⟨some 5, _, _, _, _, _⟩) (v := ?_) rfl (by kernel_rfl) (by kernel_rfl) (by kernel_rfl) (fun _ _ _ h => h) (Or.inl ⟨by kernel_rfl, ?_⟩) hHeld ?_
          rotate_left
          focus (intro W hS; have c0_0 := (hS.1).at_ (j := 0) rfl; have c0_1 := (hS.1).at_ (j := 1) rfl; have c0_2 := (hS.1).at_ (j := 2) rfl; have c0_3 := (hS.1).at_ (j := 3) rfl; have c1_0 := (hS.2.1).at_ (j := 0) rfl; have c2_0 := (hS.2.2.1).at_ (j := 0) rfl; have c2_1 := (hS.2.2.1).at_ (j := 1) rfl; have c3_0 := (hS.2.2.2.1).at_ (j := 0) rfl; clear hS; first | (go_simp; done) | (go_simp; with_reducible rfl))
          try simp only [Act.put, List.setIfInBounds_toArray, List.set_cons_zero, List.set_cons_succ]
          refine wpAnyH_done (by kernel_rfl) ?_ _
          go_wp2_with fail
          go_ret
          exact ⟨rfl, hHeld.2.2.2.2⟩

theorem rd_tailDenied {w : World} {lo hi n b off : Nat} {x : TLimit} {l : List TLimit} (h : Rd w lo hi 4 (some ⟨b, off, none⟩) (n + 1) (cLimit (x :: l))) :
    Rd w lo hi 4 (some ⟨b, off + 4, none⟩) n (cLimit l) := by
  have hc : cLimit (x :: l) = TLimit.cells x ++ cLimit l := rfl
  refine ⟨?_, fun hn => ?_⟩
  · have := h.1
    rw [hc, List.length_append, TLimit.len] at this
    omega
  · obtain ⟨b', off', e, h1, h2, h3⟩ := h.2 (by omega)
    cases e
    refine ⟨b, off + 4, rfl, h1, h2, fun j u hu => ?_⟩
    rw [Nat.add_assoc]
    refine h3 (4 + j) u ?_
    rw [hc, List.getElem?_append_right (by rw [TLimit.len]; omega), TLimit.len]
    simpa using hu

set_option maxHeartbeats 4000000 in
theorem any_Denied (p : TLimit → Bool) (lb : Array Value) (l : List TLimit) (A : Option Addr) (n c lo hi : Nat) (w : World) (hn : n ≤ 17592186044416) (hcap : n ≤ c)
    (hr : Rd w lo hi 4 A n (cLimit l)) (hp : PredB Tryz.prog 96 lb (fun x : TLimit => .agg #[.int .i64 x.f0, .int .i64 x.f1, .int .i64 x.f2, .int .i64 x.f3]) p l w) :
    Calls Tryz.prog 95 #[.slice A n c, .func (.func 96) #[] lb] w (Says (.bool (l.any p)) w) := by
  have HR := Lib.hid hr
  have HP := Lib.hid hp
  clear hr hp
  go_enter Tryz.func95, Tryz.ntmps95
  go_wp2_with fail
  go_loopg [0] n (fun gg v wr => ∃ (A' : Option Addr) (n' c' : Nat) (l' : List TLimit), v = .slice A' n' c' ∧ n' ≤ gg ∧ n' ≤ n ∧ n' ≤ c' ∧ Hid (Rd wr lo hi 4 A' n' (cLimit l')) ∧ Hid (∀ x, x ∈ l' → x ∈ l) ∧ Hid (l.any p = l'.any p) ∧ Hid (Below w.heap.size w wr))
  case atStart => exact ⟨_, _, _, l, rfl, Nat.le_refl _, Nat.le_refl _, hcap, HR, Lib.hid (fun _ h => h), Lib.hid rfl, Lib.hid (Below.refl _ _)⟩
  case round =>
    obtain ⟨A', n', c', l', rfl, hg, hn', hcc, HR', HM, HA, HB⟩ := hrel
    cases l' with
    | nil =>
      obtain rfl : n' = 0 := by have := HR'.out.1; simp at this; omega
      have HE := Lib.hid (show l.any p = false from HA.out)
      go_wp2_with fail
      go_ret
      exact ⟨by rw [HE.out]; rfl, HB.out⟩
    | cons x t =>
      have HL := Lib.hid (rd_len TLimit.len HR'.out (by decide))
      obtain ⟨m, rfl⟩ : ∃ m, n' = m + 1 := ⟨t.length, by have := HL.out; simp at this; omega⟩
      obtain ⟨b, off, x', rfl, _, _, hz, hc⟩ := rd_elem (k := 0) TLimit.len HR'.out HL.out (by omega)
      obtain rfl : x = x' := by simpa using hz
      have c0 : wr.cell? ⟨b, off, none⟩ = some (.int .i64 x.f0) := by simpa using hc 0 _ rfl
      have c1 : wr.cell? ⟨b, off + 1, none⟩ = some (.int .i64 x.f1) := by simpa using hc 1 _ rfl
      have c2 : wr.cell? ⟨b, off + 2, none⟩ = some (.int .i64 x.f2) := by simpa using hc 2 _ rfl
      have c3 : wr.cell? ⟨b, off + 3, none⟩ = some (.int .i64 x.f3) := by simpa using hc 3 _ rfl
      have HT := Lib.hid (rd_tailDenied HR'.out)
      have hcall := HP.out wr x (HM.out x (by simp)) HB.out
      have HMt := Lib.hid (fun y (h : y ∈ t) => HM.out y (List.mem_cons_of_mem _ h))
      clear hc hz HR' HM
      cases hq : p x with
      | true =>
        rw [hq] at hcall
        have HE := Lib.hid (show l.any p = true by rw [HA.out, List.any_cons, hq]; rfl)
        clear hq HA
        go_wp2_with (go_at_call 96; refine hcall.mono ?_; rintro e w1 ⟨rfl, hb1⟩; have HB1 := Lib.hid hb1; clear hb1)
        go_ret
        exact ⟨by rw [HE.out]; rfl, below_trans HB.out HB1.out (Nat.le_refl _)⟩
      | false =>
        rw [hq] at hcall
        have HE := Lib.hid (show l.any p = t.any p by rw [HA.out, List.any_cons, hq]; rfl)
        clear hq HA
        rcases Nat.eq_zero_or_pos m with rfl | hm
        · obtain rfl : t = [] := by have := HL.out; simpa using this
          go_wp2_with (go_at_call 96; refine hcall.mono ?_; rintro e w1 ⟨rfl, hb1⟩; have HB1 := Lib.hid hb1; clear hb1)
          go_roundg 0
          case measure => omega
          case rel => exact ⟨_, _, _, [], rfl, Nat.le_refl _, by omega, by omega, Lib.hid Rd.empty, HMt, HE, Lib.hid (below_trans HB.out HB1.out (Nat.le_refl _))⟩
        · go_wp2_with (go_at_call 96; refine hcall.mono ?_; rintro e w1 ⟨rfl, hb1⟩; have HB1 := Lib.hid hb1; clear hb1)
          go_roundg m
          case measure => omega
          case rel => exact ⟨_, _, _, t, rfl, by omega, by omega, by omega, Lib.hid (HT.out.new HB1.out), HMt, HE, Lib.hid (below_trans HB.out HB1.out (Nat.le_refl _))⟩

set_option maxHeartbeats 4000000 in
theorem impl_IsDeniedC (l : List TLimit) (A : Option Addr) (n c lo hi : Nat) (ext : Int) (s : TSite) (kind : Int) (w : World) (hn : n ≤ 1048576) (hr : Rd w lo hi 4 A n (cLimit l)) (hcap : n ≤ c) (H : Hid (cLimitOk l)) :
    Calls Tryz.prog 63 #[.slice A n c, .int .i64 ext, vSite s, .int .i64 kind] w (Says (.bool (mDenied l ext s kind)) w) := by
  have hmf : ∀ (fn : Fn) (first cap : Array Value) (w : World), (Instr.makeFunc fn first cap).run Tryz.prog w = .ok (.func fn first cap) w := fun _ _ _ _ => rfl
  have KB0 : BoxAt (((w.alloc (.cells #[.int .i64 ext] 3)).alloc (.cells #[.int .i64 s.f0, .int .i64 s.f1] 35)).alloc (.cells #[.int .i64 kind] 3)) w.heap.size 3 #[.int .i64 ext] := (((by simpa using box_new w 3 #[.int .i64 ext] : BoxAt (w.alloc (.cells #[.int .i64 ext] 3)) w.heap.size 3 #[.int .i64 ext])).alloc_ (.cells #[.int .i64 s.f0, .int .i64 s.f1] 35)).alloc_ (.cells #[.int .i64 kind] 3)
  have KB1 : BoxAt (((w.alloc (.cells #[.int .i64 ext] 3)).alloc (.cells #[.int .i64 s.f0, .int .i64 s.f1] 35)).alloc (.cells #[.int .i64 kind] 3)) (w.heap.size + 1) 35 #[.int .i64 s.f0, .int .i64 s.f1] := ((by simpa using box_new (w.alloc (.cells #[.int .i64 ext] 3)) 35 #[.int .i64 s.f0, .int .i64 s.f1] : BoxAt ((w.alloc (.cells #[.int .i64 ext] 3)).alloc (.cells #[.int .i64 s.f0, .int .i64 s.f1] 35)) (w.heap.size + 1) 35 #[.int .i64 s.f0, .int .i64 s.f1])).alloc_ (.cells #[.int .i64 kind] 3)
  have KB2 : BoxAt (((w.alloc (.cells #[.int .i64 ext] 3)).alloc (.cells #[.int .i64 s.f0, .int .i64 s.f1] 35)).alloc (.cells #[.int .i64 kind] 3)) (w.heap.size + 2) 3 #[.int .i64 kind] := (by simpa using box_new ((w.alloc (.cells #[.int .i64 ext] 3)).alloc (.cells #[.int .i64 s.f0, .int .i64 s.f1] 35)) 3 #[.int .i64 kind] : BoxAt (((w.alloc (.cells #[.int .i64 ext] 3)).alloc (.cells #[.int .i64 s.f0, .int .i64 s.f1] 35)).alloc (.cells #[.int .i64 kind] 3)) (w.heap.size + 2) 3 #[.int .i64 kind])
  have HBw : Below w.heap.size w (((w.alloc (.cells #[.int .i64 ext] 3)).alloc (.cells #[.int .i64 s.f0, .int .i64 s.f1] 35)).alloc (.cells #[.int .i64 kind] 3)) := ((((Below.refl _ _).alloc (by first | exact Nat.le_refl _ | (simp; done) | (simp; omega)) _).alloc (by first | exact Nat.le_refl _ | (simp; done) | (simp; omega)) _).alloc (by first | exact Nat.le_refl _ | (simp; done) | (simp; omega)) _)
  have HC := any_Denied (mDeny ext s kind) _ l A n c lo hi _ (by omega) hcap (((hr.alloc _).alloc _).alloc _) (clo_Denied ext s kind w.heap.size l _ KB0 KB1 KB2)
  have HBw := Lib.hid HBw
  unfold mDenied
  generalize l.any (mDeny ext s kind) = r at HC ⊢
  clear hr KB0 KB1 KB2
  have HC := Lib.hid HC
  go_enter Tryz.func63, Tryz.ntmps63
  go_wp2_with fail
  refine Calls.mono HC.out ?_
  rintro e w1 ⟨rfl, hb1⟩
  have HB1 := Lib.hid (below_trans HBw.out hb1 (Nat.le_refl _))
  clear hb1
  go_wp2_with fail
  go_ret
  exact ⟨rfl, HB1.out⟩

set_option maxHeartbeats 40000000 in
theorem spec_IsDenied (l : List TLimit) (A : Option Addr) (n c lo hi : Nat) (ext : Int) (s : TSite) (kind : Int) (w : World) (hn : n ≤ 1048576) (hr : Rd w lo hi 4 A n (cLimit l)) (hcap : n ≤ c) (H : Hid (cLimitOk l)) :
    Calls Tryz.prog 53 #[.slice A n c, .int .i64 ext, vSite s, .int .i64 kind] w (Says (.bool (mDenied l ext s kind)) w) := by
  have HL := Lib.hid (rd_len TLimit.len hr (by decide))
  have HR := Lib.hid hr
  clear hr
  unfold mDenied
  have HBx := Lib.hid (box_new w 35 #[.int .i64 s.f0, .int .i64 s.f1])
  go_enter Tryz.func53, Tryz.ntmps53
  go_wp2_with fail
  go_loopg [9] n (fun gg i wr => ∃ k : Nat, k ≤ n ∧ n - k ≤ gg ∧ i = .int .i64 k ∧ Hid (Below w.heap.size w wr) ∧ Hid (BoxAt wr w.heap.size 35 #[.int .i64 s.f0, .int .i64 s.f1]) ∧ Hid ((l.take k).any (mDeny ext s kind) = false))
  case atStart => exact ⟨0, Nat.zero_le _, by omega, rfl, Lib.hid ((Below.refl _ _).alloc (Nat.le_refl _) _), HBx, Lib.hid (by simp)⟩
  case round =>
    obtain ⟨k, hk, hg, rfl, HB, HX, HF⟩ := hrel
    by_cases hlt : k < n
    · obtain ⟨b, off, x, rfl, _, _, hz, hc⟩ := rd_elem TLimit.len (HR.out.new HB.out) HL.out hlt
      have c0 : wr.cell? ⟨b, off + k * 4, none⟩ = _ := hc 0 _ rfl
      have c1 := hc 1 _ rfl
      have c2 := hc 2 _ rfl
      have c3 := hc 3 _ rfl
      have d0 : wr.cell? ⟨w.heap.size, 0, none⟩ = some (.int .i64 s.f0) := HX.out.at_ rfl
      have d1 : wr.cell? ⟨w.heap.size, 1, none⟩ = some (.int .i64 s.f1) := HX.out.at_ rfl
      have hsz := HB.out.size
      have hlt0 := HX.out.lt
      have HZ := Lib.hid hz
      clear hc hz
      by_cases h0 : (mIsLimit x) = true
      · skip
        by_cases h1 : (x.f0 == 0) = true
        · skip
          by_cases h2 : (x.f3 == 0) = true
          · skip
            by_cases h3 : (mMatchSite ⟨x.f1, x.f2⟩ s) = true
            · skip
              have HPx := Lib.hid (show mDeny ext s kind x = true by simp [mDeny, mTakes, h0, h1, h2, h3])
              have HE := Lib.hid (show l.any (mDeny ext s kind) = true from List.any_eq_true.2 ⟨x, mem_of_get HZ.out, HPx.out⟩)
              go_wp2_with (first | (go_at_call 84; refine (spec_IsLimit x _).mono ?_; rintro e w1 ⟨rfl, hb1⟩; obtain ⟨hc1, hf1⟩ := bcell hb1; have HB1 := Lib.hid hb1; have hs1 := hb1.size; (try simp at hs1); (have hz0 : w.heap.size < w1.heap.size := by omega); (try (have hywr : wr.heap.size < w1.heap.size := by omega)); clear hb1) | (go_at_call 85; refine (spec_MatchSite ⟨x.f1, x.f2⟩ s _).mono ?_; rintro e w1 ⟨rfl, hb1⟩; obtain ⟨hc1, hf1⟩ := bcell hb1; have HB1 := Lib.hid hb1; have hs1 := hb1.size; (try simp at hs1); (have hz0 : w.heap.size < w1.heap.size := by omega); (try (have hywr : wr.heap.size < w1.heap.size := by omega)); clear hb1))
              go_ret
              exact ⟨by rw [HE.out]; rfl, below_trans HB.out (by repeat (first | with_reducible exact Below.refl _ _ | (with_reducible refine below_step ?_ (by assumption) (by first | omega | (simp; done) | (simp <;> omega))) | (with_reducible refine Below.alloc ?_ (by first | omega | (simp; done) | (simp <;> omega)) _) | (with_reducible refine Below.setCell ?_ (by first | omega | (simp; done) | (simp <;> omega)) _) | (with_reducible refine Below.drew ?_) | (with_reducible refine below_dN ?_ _) | (refine Below.alloc ?_ (by first | omega | (simp; done) | (simp <;> omega)) _))) (Nat.le_refl _)⟩
            · have h3 : (mMatchSite ⟨x.f1, x.f2⟩ s) = false := by simpa using h3
              have HPx := Lib.hid (show mDeny ext s kind x = false by simp [mDeny, mTakes, h0, h1, h2, h3])
              have HE := Lib.hid (any_step HF.out HZ.out HPx.out)
              go_wp2_with (first | (go_at_call 84; refine (spec_IsLimit x _).mono ?_; rintro e w1 ⟨rfl, hb1⟩; obtain ⟨hc1, hf1⟩ := bcell hb1; have HB1 := Lib.hid hb1; have hs1 := hb1.size; (try simp at hs1); (have hz0 : w.heap.size < w1.heap.size := by omega); (try (have hywr : wr.heap.size < w1.heap.size := by omega)); clear hb1) | (go_at_call 85; refine (spec_MatchSite ⟨x.f1, x.f2⟩ s _).mono ?_; rintro e w1 ⟨rfl, hb1⟩; obtain ⟨hc1, hf1⟩ := bcell hb1; have HB1 := Lib.hid hb1; have hs1 := hb1.size; (try simp at hs1); (have hz0 : w.heap.size < w1.heap.size := by omega); (try (have hywr : wr.heap.size < w1.heap.size := by omega)); clear hb1))
              go_roundg (n - (k + 1))
              case measure => omega
              case rel => exact ⟨k + 1, by omega, by omega, by go_num, Lib.hid (below_trans HB.out (show Below wr.heap.size wr _ by repeat (first | with_reducible exact Below.refl _ _ | (with_reducible refine below_step ?_ (by assumption) (by first | omega | (simp; done) | (simp <;> omega))) | (with_reducible refine Below.alloc ?_ (by first | omega | (simp; done) | (simp <;> omega)) _) | (with_reducible refine Below.setCell ?_ (by first | omega | (simp; done) | (simp <;> omega)) _) | (with_reducible refine Below.drew ?_) | (with_reducible refine below_dN ?_ _) | (refine Below.alloc ?_ (by first | omega | (simp; done) | (simp <;> omega)) _))) (Nat.le_refl _)), Lib.hid (HX.out.new (show Below wr.heap.size wr _ by repeat (first | with_reducible exact Below.refl _ _ | (with_reducible refine below_step ?_ (by assumption) (by first | omega | (simp; done) | (simp <;> omega))) | (with_reducible refine Below.alloc ?_ (by first | omega | (simp; done) | (simp <;> omega)) _) | (with_reducible refine Below.setCell ?_ (by first | omega | (simp; done) | (simp <;> omega)) _) | (with_reducible refine Below.drew ?_) | (with_reducible refine below_dN ?_ _) | (refine Below.alloc ?_ (by first | omega | (simp; done) | (simp <;> omega)) _)))), HE⟩
          · have h2 : (x.f3 == 0) = false := by simpa using h2
            by_cases h4 : (x.f3 == kind) = true
            · skip
              by_cases h5 : (mMatchSite ⟨x.f1, x.f2⟩ s) = true
              · skip
                have HPx := Lib.hid (show mDeny ext s kind x = true by simp [mDeny, mTakes, h0, h1, h2, h4, h5])
                have HE := Lib.hid (show l.any (mDeny ext s kind) = true from List.any_eq_true.2 ⟨x, mem_of_get HZ.out, HPx.out⟩)
                go_wp2_with (first | (go_at_call 84; refine (spec_IsLimit x _).mono ?_; rintro e w1 ⟨rfl, hb1⟩; obtain ⟨hc1, hf1⟩ := bcell hb1; have HB1 := Lib.hid hb1; have hs1 := hb1.size; (try simp at hs1); (have hz0 : w.heap.size < w1.heap.size := by omega); (try (have hywr : wr.heap.size < w1.heap.size := by omega)); clear hb1) | (go_at_call 85; refine (spec_MatchSite ⟨x.f1, x.f2⟩ s _).mono ?_; rintro e w1 ⟨rfl, hb1⟩; obtain ⟨hc1, hf1⟩ := bcell hb1; have HB1 := Lib.hid hb1; have hs1 := hb1.size; (try simp at hs1); (have hz0 : w.heap.size < w1.heap.size := by omega); (try (have hywr : wr.heap.size < w1.heap.size := by omega)); clear hb1))
                go_ret
                exact ⟨by rw [HE.out]; rfl, below_trans HB.out (by repeat (first | with_reducible exact Below.refl _ _ | (with_reducible refine below_step ?_ (by assumption) (by first | omega | (simp; done) | (simp <;> omega))) | (with_reducible refine Below.alloc ?_ (by first | omega | (simp; done) | (simp <;> omega)) _) | (with_reducible refine Below.setCell ?_ (by first | omega | (simp; done) | (simp <;> omega)) _) | (with_reducible refine Below.drew ?_) | (with_reducible refine below_dN ?_ _) | (refine Below.alloc ?_ (by first | omega | (simp; done) | (simp <;> omega)) _))) (Nat.le_refl _)⟩
              · have h5 : (mMatchSite ⟨x.f1, x.f2⟩ s) = false := by simpa using h5
                have HPx := Lib.hid (show mDeny ext s kind x = false by simp [mDeny, mTakes, h0, h1, h2, h4, h5])
                have HE := Lib.hid (any_step HF.out HZ.out HPx.out)
                go_wp2_with (first | (go_at_call 84; refine (spec_IsLimit x _).mono ?_; rintro e w1 ⟨rfl, hb1⟩; obtain ⟨hc1, hf1⟩ := bcell hb1; have HB1 := Lib.hid hb1; have hs1 := hb1.size; (try simp at hs1); (have hz0 : w.heap.size < w1.heap.size := by omega); (try (have hywr : wr.heap.size < w1.heap.size := by omega)); clear hb1) | (go_at_call 85; refine (spec_MatchSite ⟨x.f1, x.f2⟩ s _).mono ?_; rintro e w1 ⟨rfl, hb1⟩; obtain ⟨hc1, hf1⟩ := bcell hb1; have HB1 := Lib.hid hb1; have hs1 := hb1.size; (try simp at hs1); (have hz0 : w.heap.size < w1.heap.size := by omega); (try (have hywr : wr.heap.size < w1.heap.size := by omega)); clear hb1))
                go_roundg (n - (k + 1))
                case measure => omega
                case rel => exact ⟨k + 1, by omega, by omega, by go_num, Lib.hid (below_trans HB.out (show Below wr.heap.size wr _ by repeat (first | with_reducible exact Below.refl _ _ | (with_reducible refine below_step ?_ (by assumption) (by first | omega | (simp; done) | (simp <;> omega))) | (with_reducible refine Below.alloc ?_ (by first | omega | (simp; done) | (simp <;> omega)) _) | (with_reducible refine Below.setCell ?_ (by first | omega | (simp; done) | (simp <;> omega)) _) | (with_reducible refine Below.drew ?_) | (with_reducible refine below_dN ?_ _) | (refine Below.alloc ?_ (by first | omega | (simp; done) | (simp <;> omega)) _))) (Nat.le_refl _)), Lib.hid (HX.out.new (show Below wr.heap.size wr _ by repeat (first | with_reducible exact Below.refl _ _ | (with_reducible refine below_step ?_ (by assumption) (by first | omega | (simp; done) | (simp <;> omega))) | (with_reducible refine Below.alloc ?_ (by first | omega | (simp; done) | (simp <;> omega)) _) | (with_reducible refine Below.setCell ?_ (by first | omega | (simp; done) | (simp <;> omega)) _) | (with_reducible refine Below.drew ?_) | (with_reducible refine below_dN ?_ _) | (refine Below.alloc ?_ (by first | omega | (simp; done) | (simp <;> omega)) _)))), HE⟩
            · have h4 : (x.f3 == kind) = false := by simpa using h4
              have HPx := Lib.hid (show mDeny ext s kind x = false by simp [mDeny, mTakes, h0, h1, h2, h4])
              have HE := Lib.hid (any_step HF.out HZ.out HPx.out)
              go_wp2_with (first | (go_at_call 84; refine (spec_IsLimit x _).mono ?_; rintro e w1 ⟨rfl, hb1⟩; obtain ⟨hc1, hf1⟩ := bcell hb1; have HB1 := Lib.hid hb1; have hs1 := hb1.size; (try simp at hs1); (have hz0 : w.heap.size < w1.heap.size := by omega); (try (have hywr : wr.heap.size < w1.heap.size := by omega)); clear hb1) | (go_at_call 85; refine (spec_MatchSite ⟨x.f1, x.f2⟩ s _).mono ?_; rintro e w1 ⟨rfl, hb1⟩; obtain ⟨hc1, hf1⟩ := bcell hb1; have HB1 := Lib.hid hb1; have hs1 := hb1.size; (try simp at hs1); (have hz0 : w.heap.size < w1.heap.size := by omega); (try (have hywr : wr.heap.size < w1.heap.size := by omega)); clear hb1))
              go_roundg (n - (k + 1))
              case measure => omega
              case rel => exact ⟨k + 1, by omega, by omega, by go_num, Lib.hid (below_trans HB.out (show Below wr.heap.size wr _ by repeat (first | with_reducible exact Below.refl _ _ | (with_reducible refine below_step ?_ (by assumption) (by first | omega | (simp; done) | (simp <;> omega))) | (with_reducible refine Below.alloc ?_ (by first | omega | (simp; done) | (simp <;> omega)) _) | (with_reducible refine Below.setCell ?_ (by first | omega | (simp; done) | (simp <;> omega)) _) | (with_reducible refine Below.drew ?_) | (with_reducible refine below_dN ?_ _) | (refine Below.alloc ?_ (by first | omega | (simp; done) | (simp <;> omega)) _))) (Nat.le_refl _)), Lib.hid (HX.out.new (show Below wr.heap.size wr _ by repeat (first | with_reducible exact Below.refl _ _ | (with_reducible refine below_step ?_ (by assumption) (by first | omega | (simp; done) | (simp <;> omega))) | (with_reducible refine Below.alloc ?_ (by first | omega | (simp; done) | (simp <;> omega)) _) | (with_reducible refine Below.setCell ?_ (by first | omega | (simp; done) | (simp <;> omega)) _) | (with_reducible refine Below.drew ?_) | (with_reducible refine below_dN ?_ _) | (refine Below.alloc ?_ (by first | omega | (simp; done) | (simp <;> omega)) _)))), HE⟩
        · have h1 : (x.f0 == 0) = false := by simpa using h1
          by_cases h6 : (x.f0 == ext) = true
          · skip
            by_cases h7 : (x.f3 == 0) = true
            · skip
              by_cases h8 : (mMatchSite ⟨x.f1, x.f2⟩ s) = true
              · skip
                have HPx := Lib.hid (show mDeny ext s kind x = true by simp [mDeny, mTakes, h0, h1, h6, h7, h8])
                have HE := Lib.hid (show l.any (mDeny ext s kind) = true from List.any_eq_true.2 ⟨x, mem_of_get HZ.out, HPx.out⟩)
                go_wp2_with (first | (go_at_call 84; refine (spec_IsLimit x _).mono ?_; rintro e w1 ⟨rfl, hb1⟩; obtain ⟨hc1, hf1⟩ := bcell hb1; have HB1 := Lib.hid hb1; have hs1 := hb1.size; (try simp at hs1); (have hz0 : w.heap.size < w1.heap.size := by omega); (try (have hywr : wr.heap.size < w1.heap.size := by omega)); clear hb1) | (go_at_call 85; refine (spec_MatchSite ⟨x.f1, x.f2⟩ s _).mono ?_; rintro e w1 ⟨rfl, hb1⟩; obtain ⟨hc1, hf1⟩ := bcell hb1; have HB1 := Lib.hid hb1; have hs1 := hb1.size; (try simp at hs1); (have hz0 : w.heap.size < w1.heap.size := by omega); (try (have hywr : wr.heap.size < w1.heap.size := by omega)); clear hb1))
                go_ret
                exact ⟨by rw [HE.out]; rfl, below_trans HB.out (by repeat (first | with_reducible exact Below.refl _ _ | (with_reducible refine below_step ?_ (by assumption) (by first | omega | (simp; done) | (simp <;> omega))) | (with_reducible refine Below.alloc ?_ (by first | omega | (simp; done) | (simp <;> omega)) _) | (with_reducible refine Below.setCell ?_ (by first | omega | (simp; done) | (simp <;> omega)) _) | (with_reducible refine Below.drew ?_) | (with_reducible refine below_dN ?_ _) | (refine Below.alloc ?_ (by first | omega | (simp; done) | (simp <;> omega)) _))) (Nat.le_refl _)⟩
              · have h8 : (mMatchSite ⟨x.f1, x.f2⟩ s) = false := by simpa using h8
                have HPx := Lib.hid (show mDeny ext s kind x = false by simp [mDeny, mTakes, h0, h1, h6, h7, h8])
                have HE := Lib.hid (any_step HF.out HZ.out HPx.out)
                go_wp2_with (first | (go_at_call 84; refine (spec_IsLimit x _).mono ?_; rintro e w1 ⟨rfl, hb1⟩; obtain ⟨hc1, hf1⟩ := bcell hb1; have HB1 := Lib.hid hb1; have hs1 := hb1.size; (try simp at hs1); (have hz0 : w.heap.size < w1.heap.size := by omega); (try (have hywr : wr.heap.size < w1.heap.size := by omega)); clear hb1) | (go_at_call 85; refine (spec_MatchSite ⟨x.f1, x.f2⟩ s _).mono ?_; rintro e w1 ⟨rfl, hb1⟩; obtain ⟨hc1, hf1⟩ := bcell hb1; have HB1 := Lib.hid hb1; have hs1 := hb1.size; (try simp at hs1); (have hz0 : w.heap.size < w1.heap.size := by omega); (try (have hywr : wr.heap.size < w1.heap.size := by omega)); clear hb1))
                go_roundg (n - (k + 1))
                case measure => omega
                case rel => exact ⟨k + 1, by omega, by omega, by go_num, Lib.hid (below_trans HB.out (show Below wr.heap.size wr _ by repeat (first | with_reducible exact Below.refl _ _ | (with_reducible refine below_step ?_ (by assumption) (by first | omega | (simp; done) | (simp <;> omega))) | (with_reducible refine Below.alloc ?_ (by first | omega | (simp; done) | (simp <;> omega)) _) | (with_reducible refine Below.setCell ?_ (by first | omega | (simp; done) | (simp <;> omega)) _) | (with_reducible refine Below.drew ?_) | (with_reducible refine below_dN ?_ _) | (refine Below.alloc ?_ (by first | omega | (simp; done) | (simp <;> omega)) _))) (Nat.le_refl _)), Lib.hid (HX.out.new (show Below wr.heap.size wr _ by repeat (first | with_reducible exact Below.refl _ _ | (with_reducible refine below_step ?_ (by assumption) (by first | omega | (simp; done) | (simp <;> omega))) | (with_reducible refine Below.alloc ?_ (by first | omega | (simp; done) | (simp <;> omega)) _) | (with_reducible refine Below.setCell ?_ (by first | omega | (simp; done) | (simp <;> omega)) _) | (with_reducible refine Below.drew ?_) | (with_reducible refine below_dN ?_ _) | (refine Below.alloc ?_ (by first | omega | (simp; done) | (simp <;> omega)) _)))), HE⟩
            · have h7 : (x.f3 == 0) = false := by simpa using h7
              by_cases h9 : (x.f3 == kind) = true
              · skip
                by_cases h10 : (mMatchSite ⟨x.f1, x.f2⟩ s) = true
                · skip
                  have HPx := Lib.hid (show mDeny ext s kind x = true by simp [mDeny, mTakes, h0, h1, h6, h7, h9, h10])
                  have HE := Lib.hid (show l.any (mDeny ext s kind) = true from List.any_eq_true.2 ⟨x, mem_of_get HZ.out, HPx.out⟩)
                  go_wp2_with (first | (go_at_call 84; refine (spec_IsLimit x _).mono ?_; rintro e w1 ⟨rfl, hb1⟩; obtain ⟨hc1, hf1⟩ := bcell hb1; have HB1 := Lib.hid hb1; have hs1 := hb1.size; (try simp at hs1); (have hz0 : w.heap.size < w1.heap.size := by omega); (try (have hywr : wr.heap.size < w1.heap.size := by omega)); clear hb1) | (go_at_call 85; refine (spec_MatchSite ⟨x.f1, x.f2⟩ s _).mono ?_; rintro e w1 ⟨rfl, hb1⟩; obtain ⟨hc1, hf1⟩ := bcell hb1; have HB1 := Lib.hid hb1; have hs1 := hb1.size; (try simp at hs1); (have hz0 : w.heap.size < w1.heap.size := by omega); (try (have hywr : wr.heap.size < w1.heap.size := by omega)); clear hb1))
                  go_ret
                  exact ⟨by rw [HE.out]; rfl, below_trans HB.out (by repeat (first | with_reducible exact Below.refl _ _ | (with_reducible refine below_step ?_ (by assumption) (by first | omega | (simp; done) | (simp <;> omega))) | (with_reducible refine Below.alloc ?_ (by first | omega | (simp; done) | (simp <;> omega)) _) | (with_reducible refine Below.setCell ?_ (by first | omega | (simp; done) | (simp <;> omega)) _) | (with_reducible refine Below.drew ?_) | (with_reducible refine below_dN ?_ _) | (refine Below.alloc ?_ (by first | omega | (simp; done) | (simp <;> omega)) _))) (Nat.le_refl _)⟩
                · have h10 : (mMatchSite ⟨x.f1, x.f2⟩ s) = false := by simpa using h10
                  have HPx := Lib.hid (show mDeny ext s kind x = false by simp [mDeny, mTakes, h0, h1, h6, h7, h9, h10])
                  have HE := Lib.hid (any_step HF.out HZ.out HPx.out)
                  go_wp2_with (first | (go_at_call 84; refine (spec_IsLimit x _).mono ?_; rintro e w1 ⟨rfl, hb1⟩; obtain ⟨hc1, hf1⟩ := bcell hb1; have HB1 := Lib.hid hb1; have hs1 := hb1.size; (try simp at hs1); (have hz0 : w.heap.size < w1.heap.size := by omega); (try (have hywr : wr.heap.size < w1.heap.size := by omega)); clear hb1) | (go_at_call 85; refine (spec_MatchSite ⟨x.f1, x.f2⟩ s _).mono ?_; rintro e w1 ⟨rfl, hb1⟩; obtain ⟨hc1, hf1⟩ := bcell hb1; have HB1 := Lib.hid hb1; have hs1 := hb1.size; (try simp at hs1); (have hz0 : w.heap.size < w1.heap.size := by omega); (try (have hywr : wr.heap.size < w1.heap.size := by omega)); clear hb1))
                  go_roundg (n - (k + 1))
                  case measure => omega
                  case rel => exact ⟨k + 1, by omega, by omega, by go_num, Lib.hid (below_trans HB.out (show Below wr.heap.size wr _ by repeat (first | with_reducible exact Below.refl _ _ | (with_reducible refine below_step ?_ (by assumption) (by first | omega | (simp; done) | (simp <;> omega))) | (with_reducible refine Below.alloc ?_ (by first | omega | (simp; done) | (simp <;> omega)) _) | (with_reducible refine Below.setCell ?_ (by first | omega | (simp; done) | (simp <;> omega)) _) | (with_reducible refine Below.drew ?_) | (with_reducible refine below_dN ?_ _) | (refine Below.alloc ?_ (by first | omega | (simp; done) | (simp <;> omega)) _))) (Nat.le_refl _)), Lib.hid (HX.out.new (show Below wr.heap.size wr _ by repeat (first | with_reducible exact Below.refl _ _ | (with_reducible refine below_step ?_ (by assumption) (by first | omega | (simp; done) | (simp <;> omega))) | (with_reducible refine Below.alloc ?_ (by first | omega | (simp; done) | (simp <;> omega)) _) | (with_reducible refine Below.setCell ?_ (by first | omega | (simp; done) | (simp <;> omega)) _) | (with_reducible refine Below.drew ?_) | (with_reducible refine below_dN ?_ _) | (refine Below.alloc ?_ (by first | omega | (simp; done) | (simp <;> omega)) _)))), HE⟩
              · have h9 : (x.f3 == kind) = false := by simpa using h9
                have HPx := Lib.hid (show mDeny ext s kind x = false by simp [mDeny, mTakes, h0, h1, h6, h7, h9])
                have HE := Lib.hid (any_step HF.out HZ.out HPx.out)
                go_wp2_with (first | (go_at_call 84; refine (spec_IsLimit x _).mono ?_; rintro e w1 ⟨rfl, hb1⟩; obtain ⟨hc1, hf1⟩ := bcell hb1; have HB1 := Lib.hid hb1; have hs1 := hb1.size; (try simp at hs1); (have hz0 : w.heap.size < w1.heap.size := by omega); (try (have hywr : wr.heap.size < w1.heap.size := by omega)); clear hb1) | (go_at_call 85; refine (spec_MatchSite ⟨x.f1, x.f2⟩ s _).mono ?_; rintro e w1 ⟨rfl, hb1⟩; obtain ⟨hc1, hf1⟩ := bcell hb1; have HB1 := Lib.hid hb1; have hs1 := hb1.size; (try simp at hs1); (have hz0 : w.heap.size < w1.heap.size := by omega); (try (have hywr : wr.heap.size < w1.heap.size := by omega)); clear hb1))
                go_roundg (n - (k + 1))
                case measure => omega
                case rel => exact ⟨k + 1, by omega, by omega, by go_num, Lib.hid (below_trans HB.out (show Below wr.heap.size wr _ by repeat (first | with_reducible exact Below.refl _ _ | (with_reducible refine below_step ?_ (by assumption) (by first | omega | (simp; done) | (simp <;> omega))) | (with_reducible refine Below.alloc ?_ (by first | omega | (simp; done) | (simp <;> omega)) _) | (with_reducible refine Below.setCell ?_ (by first | omega | (simp; done) | (simp <;> omega)) _) | (with_reducible refine Below.drew ?_) | (with_reducible refine below_dN ?_ _) | (refine Below.alloc ?_ (by first | omega | (simp; done) | (simp <;> omega)) _))) (Nat.le_refl _)), Lib.hid (HX.out.new (show Below wr.heap.size wr _ by repeat (first | with_reducible exact Below.refl _ _ | (with_reducible refine below_step ?_ (by assumption) (by first | omega | (simp; done) | (simp <;> omega))) | (with_reducible refine Below.alloc ?_ (by first | omega | (simp; done) | (simp <;> omega)) _) | (with_reducible refine Below.setCell ?_ (by first | omega | (simp; done) | (simp <;> omega)) _) | (with_reducible refine Below.drew ?_) | (with_reducible refine below_dN ?_ _) | (refine Below.alloc ?_ (by first | omega | (simp; done) | (simp <;> omega)) _)))), HE⟩
          · have h6 : (x.f0 == ext) = false := by simpa using h6
            have HPx := Lib.hid (show mDeny ext s kind x = false by simp [mDeny, mTakes, h0, h1, h6])
            have HE := Lib.hid (any_step HF.out HZ.out HPx.out)
            go_wp2_with (first | (go_at_call 84; refine (spec_IsLimit x _).mono ?_; rintro e w1 ⟨rfl, hb1⟩; obtain ⟨hc1, hf1⟩ := bcell hb1; have HB1 := Lib.hid hb1; have hs1 := hb1.size; (try simp at hs1); (have hz0 : w.heap.size < w1.heap.size := by omega); (try (have hywr : wr.heap.size < w1.heap.size := by omega)); clear hb1) | (go_at_call 85; refine (spec_MatchSite ⟨x.f1, x.f2⟩ s _).mono ?_; rintro e w1 ⟨rfl, hb1⟩; obtain ⟨hc1, hf1⟩ := bcell hb1; have HB1 := Lib.hid hb1; have hs1 := hb1.size; (try simp at hs1); (have hz0 : w.heap.size < w1.heap.size := by omega); (try (have hywr : wr.heap.size < w1.heap.size := by omega)); clear hb1))
            go_roundg (n - (k + 1))
            case measure => omega
            case rel => exact ⟨k + 1, by omega, by omega, by go_num, Lib.hid (below_trans HB.out (show Below wr.heap.size wr _ by repeat (first | with_reducible exact Below.refl _ _ | (with_reducible refine below_step ?_ (by assumption) (by first | omega | (simp; done) | (simp <;> omega))) | (with_reducible refine Below.alloc ?_ (by first | omega | (simp; done) | (simp <;> omega)) _) | (with_reducible refine Below.setCell ?_ (by first | omega | (simp; done) | (simp <;> omega)) _) | (with_reducible refine Below.drew ?_) | (with_reducible refine below_dN ?_ _) | (refine Below.alloc ?_ (by first | omega | (simp; done) | (simp <;> omega)) _))) (Nat.le_refl _)), Lib.hid (HX.out.new (show Below wr.heap.size wr _ by repeat (first | with_reducible exact Below.refl _ _ | (with_reducible refine below_step ?_ (by assumption) (by first | omega | (simp; done) | (simp <;> omega))) | (with_reducible refine Below.alloc ?_ (by first | omega | (simp; done) | (simp <;> omega)) _) | (with_reducible refine Below.setCell ?_ (by first | omega | (simp; done) | (simp <;> omega)) _) | (with_reducible refine Below.drew ?_) | (with_reducible refine below_dN ?_ _) | (refine Below.alloc ?_ (by first | omega | (simp; done) | (simp <;> omega)) _)))), HE⟩
      · have h0 : (mIsLimit x) = false := by simpa using h0
        have HPx := Lib.hid (show mDeny ext s kind x = false by simp [mDeny, mTakes, h0])
        have HE := Lib.hid (any_step HF.out HZ.out HPx.out)
        go_wp2_with (first | (go_at_call 84; refine (spec_IsLimit x _).mono ?_; rintro e w1 ⟨rfl, hb1⟩; obtain ⟨hc1, hf1⟩ := bcell hb1; have HB1 := Lib.hid hb1; have hs1 := hb1.size; (try simp at hs1); (have hz0 : w.heap.size < w1.heap.size := by omega); (try (have hywr : wr.heap.size < w1.heap.size := by omega)); clear hb1) | (go_at_call 85; refine (spec_MatchSite ⟨x.f1, x.f2⟩ s _).mono ?_; rintro e w1 ⟨rfl, hb1⟩; obtain ⟨hc1, hf1⟩ := bcell hb1; have HB1 := Lib.hid hb1; have hs1 := hb1.size; (try simp at hs1); (have hz0 : w.heap.size < w1.heap.size := by omega); (try (have hywr : wr.heap.size < w1.heap.size := by omega)); clear hb1))
        go_roundg (n - (k + 1))
        case measure => omega
        case rel => exact ⟨k + 1, by omega, by omega, by go_num, Lib.hid (below_trans HB.out (show Below wr.heap.size wr _ by repeat (first | with_reducible exact Below.refl _ _ | (with_reducible refine below_step ?_ (by assumption) (by first | omega | (simp; done) | (simp <;> omega))) | (with_reducible refine Below.alloc ?_ (by first | omega | (simp; done) | (simp <;> omega)) _) | (with_reducible refine Below.setCell ?_ (by first | omega | (simp; done) | (simp <;> omega)) _) | (with_reducible refine Below.drew ?_) | (with_reducible refine below_dN ?_ _) | (refine Below.alloc ?_ (by first | omega | (simp; done) | (simp <;> omega)) _))) (Nat.le_refl _)), Lib.hid (HX.out.new (show Below wr.heap.size wr _ by repeat (first | with_reducible exact Below.refl _ _ | (with_reducible refine below_step ?_ (by assumption) (by first | omega | (simp; done) | (simp <;> omega))) | (with_reducible refine Below.alloc ?_ (by first | omega | (simp; done) | (simp <;> omega)) _) | (with_reducible refine Below.setCell ?_ (by first | omega | (simp; done) | (simp <;> omega)) _) | (with_reducible refine Below.drew ?_) | (with_reducible refine below_dN ?_ _) | (refine Below.alloc ?_ (by first | omega | (simp; done) | (simp <;> omega)) _)))), HE⟩

    · obtain rfl : k = n := by omega
      have HE := Lib.hid (show l.any (mDeny ext s kind) = false by have := HF.out; rw [List.take_of_length_le (by have := HL.out; omega)] at this; exact this)
      go_wp2_with fail
      go_ret
      exact ⟨by rw [HE.out]; rfl, HB.out⟩
end Go.Proofs.YtafekceggpbnlaaGreat
