/- EndLending, of the program and of the model. -/
import Derived.Test.YtfceddgacefejaaDel
import Derived.Test.YtfceddgacefejaaIsLent
import Derived.Test.YtfceddgacefejaaSite
import Derived.Test.YtfceddgacefejaaApp
import Derived.Test.YtfceddgacefejaaGB
import Derived.Handy
import Derived.Deep.RegionHeld3
import Derived.Deep.LoopGhost
namespace Go.Proofs.Ytfceddgacefejaa
open Go Go.ChangeShapes Go.WideShapes Go.ChangeAt Go.RowKit Go.Lib
set_option linter.unusedVariables false
set_option linter.unusedSimpArgs false
set_option maxRecDepth 100000
def pEL (s : TSite) (x : TGrant) : Bool := mIsLent x && mMatchSite ⟨x.f1, x.f2⟩ s
set_option maxHeartbeats 4000000 in
theorem has_lent (g : TGrant) (s : TSite) (w : World) : Calls Try.prog 133 #[.agg #[.int .i64 s.f0, .int .i64 s.f1], .agg #[.int .i64 g.f0, .int .i64 g.f1, .int .i64 g.f2, .int .i64 g.f3, .int .i64 g.f4, .int .i64 g.f5, .bool g.f6]] w (Says (.bool (pEL s g)) w) := by
  have C0 := Lib.hid (fun W => impl_IsLent g W)
  have C1 := Lib.hid (fun W => impl_MatchSite ⟨g.f1, g.f2⟩ s W)
  unfold pEL
  generalize mIsLent g = r at C0 ⊢
  generalize mMatchSite ⟨g.f1, g.f2⟩ s = q at C1 ⊢
  have K0 := Lib.hid (show BoxAt ((w.alloc (.cells #[.int .i64 s.f0, .int .i64 s.f1] 161)).alloc (.cells #[.int .i64 g.f0, .int .i64 g.f1, .int .i64 g.f2, .int .i64 g.f3, .int .i64 g.f4, .int .i64 g.f5, .bool g.f6] 35)) w.heap.size 161 #[.int .i64 s.f0, .int .i64 s.f1] from (box_new w _ _).alloc_ _)
  have K1 := Lib.hid (show BoxAt ((w.alloc (.cells #[.int .i64 s.f0, .int .i64 s.f1] 161)).alloc (.cells #[.int .i64 g.f0, .int .i64 g.f1, .int .i64 g.f2, .int .i64 g.f3, .int .i64 g.f4, .int .i64 g.f5, .bool g.f6] 35)) (w.heap.size + 1) 35 #[.int .i64 g.f0, .int .i64 g.f1, .int .i64 g.f2, .int .i64 g.f3, .int .i64 g.f4, .int .i64 g.f5, .bool g.f6] from by simpa using box_new (w.alloc (.cells #[.int .i64 s.f0, .int .i64 s.f1] 161)) 35 #[.int .i64 g.f0, .int .i64 g.f1, .int .i64 g.f2, .int .i64 g.f3, .int .i64 g.f4, .int .i64 g.f5, .bool g.f6])
  have HB0 := Lib.hid (show Below w.heap.size w ((w.alloc (.cells #[.int .i64 s.f0, .int .i64 s.f1] 161)).alloc (.cells #[.int .i64 g.f0, .int .i64 g.f1, .int .i64 g.f2, .int .i64 g.f3, .int .i64 g.f4, .int .i64 g.f5, .bool g.f6] 35)) from ((Below.refl _ _).alloc (Nat.le_refl _) _).alloc (by simp) _)
  cases r
  all_goals
    go_enter Try.func133, Try.ntmps133
    go_wp2_with (go_at_call 32; refine Calls.mono (C0.out _) ?_; rintro e w1 ⟨rfl, hb1⟩; (have HB1 := Lib.hid (below_trans HB0.out hb1 (by simp <;> omega))); (have k00 := (K0.out.new hb1).at_ (j := 0) rfl); (have k01 := (K0.out.new hb1).at_ (j := 1) rfl); (have k11 := (K1.out.new hb1).at_ (j := 1) rfl); (have k12 := (K1.out.new hb1).at_ (j := 2) rfl); clear hb1)
  · go_ret
    exact ⟨rfl, HB1.out⟩
  · refine Calls.mono (C1.out _) ?_
    rintro e w2 ⟨rfl, hb2⟩
    have HB2 := Lib.hid (below_trans HB1.out hb2 (Nat.le_refl _))
    clear hb2
    go_wp2_with fail
    go_ret
    exact ⟨by cases q <;> rfl, HB2.out⟩

set_option maxHeartbeats 8000000 in
theorem impl_EndLending (l : List TGrant) (A : Option Addr) (n c lo hi : Nat) (s : TSite) (w : World) (h0 : n ≤ 1048576) (hr : Rd w lo hi 7 A n (cGrant l)) (b0 : Hid (cGrantOk l)) :
    Calls Try.prog 31 #[.slice A n c, .agg #[.int .i64 s.f0, .int .i64 s.f1]] w (Makes 35 7 (l.filter (qNot (pEL s))).length (cGrant (l.filter (qNot (pEL s)))) w) := by
  have hmf : ∀ (fn : Fn) (first cap : Array Value) (w : World), (Instr.makeFunc fn first cap).run Try.prog w = .ok (.func fn first cap) w := fun _ _ _ _ => rfl
  have C0 : Hid (∀ (W : World), w.heap.size < W.heap.size → Rd W lo hi 7 A n (cGrant l) → Calls Try.prog 130 #[.slice A n c] W (fun e w' => ∃ A' c', e = .returned (.slice A' n c') ∧ Fr w' (w.heap.size + 1) w'.heap.size 35 7 A' n c' (cGrant l) ∧ Below W.heap.size W w')) := Lib.hid (fun W hW hrd => by
    refine (clone_Grant l A n c lo hi W h0 hrd).mono ?_
    rintro e w1 ⟨v, rfl, ho, hb⟩
    obtain ⟨A', c', rfl, hF⟩ := fr_of_own ho
    exact ⟨A', c', rfl, hF.mono hW (Nat.le_refl _), hb⟩)
  have HR := Lib.hid hr
  clear hr
  go_enter Try.func31, Try.ntmps31
  go_wp2_with fail
  refine wp_region_held_drew (S := fun w' => BoxAt w' w.heap.size 27 #[.int .i64 s.f0, .int .i64 s.f1] ∧ Below w.heap.size w w') (by kernel_rfl) ?_ (fun hHeld => ?_)
  · exact ⟨(box_new w 27 #[.int .i64 s.f0, .int .i64 s.f1]).drw, ((Below.refl _ _).alloc (Nat.le_refl _) _).drew⟩
  refine wpAnyH_take (i := 0) (oi := ⟨some 5, _, _, _, _, _⟩) (v := ?_) rfl (by kernel_rfl) (by kernel_rfl) (by kernel_rfl) (fun _ _ _ h => h) (Or.inl ⟨by kernel_rfl, ?_⟩) hHeld ?_
  rotate_left
  focus (intro W hS; have c0_0 := (hS.1).at_ (j := 0) rfl; have c0_1 := (hS.1).at_ (j := 1) rfl; clear hS; first | (go_simp; done) | (go_simp; with_reducible rfl))
  try simp only [Act.put, List.setIfInBounds_toArray, List.set_cons_zero, List.set_cons_succ]
  refine wpAnyH_take (i := 2) (oi := ⟨some 7, _, _, _, _, _⟩) (v := ?_) rfl (by kernel_rfl) (by kernel_rfl) (by kernel_rfl) (fun _ _ _ h => h) (Or.inl ⟨by kernel_rfl, ?_⟩) hHeld ?_
  rotate_left
  focus (intro W hS; have c0_0 := (hS.1).at_ (j := 0) rfl; have c0_1 := (hS.1).at_ (j := 1) rfl; clear hS; first | (go_simp; done) | (go_simp; with_reducible rfl))
  try simp only [Act.put, List.setIfInBounds_toArray, List.set_cons_zero, List.set_cons_succ]
  refine wpAnyH_take (i := 3) (oi := ⟨some 8, _, _, _, _, _⟩) (v := ?_) rfl (by kernel_rfl) (by kernel_rfl) (by kernel_rfl) (fun _ _ _ h => h) (Or.inl ⟨by kernel_rfl, ?_⟩) hHeld ?_
  rotate_left
  focus (intro W hS; have c0_0 := (hS.1).at_ (j := 0) rfl; have c0_1 := (hS.1).at_ (j := 1) rfl; clear hS; first | (go_simp; done) | (go_simp; with_reducible rfl))
  try simp only [Act.put, List.setIfInBounds_toArray, List.set_cons_zero, List.set_cons_succ]
  refine wpAnyH_ready (rs := [1]) (by kernel_rfl) (by simp) ?_
  refine AllReadyH.cons (o := ⟨some 6, _, _, _, _, _⟩) rfl (fun K hK => ?_) AllReadyH.nil
  go_simp
  refine Calls.mono (C0.out _ hHeld.1.lt (HR.out.new hHeld.2)) ?_
  rintro e x1 ⟨AK, cK, rfl, GK, hb1⟩
  refine hK.out _ _ ⟨hHeld.1.new hb1, below_trans hHeld.2 hb1 (Nat.le_refl _)⟩ (fun hHeld' => ?_)
  clear hK K hHeld hb1
  have hHeld := hHeld'
  clear hHeld'
  try simp only [Act.put, List.setIfInBounds_toArray, List.set_cons_zero, List.set_cons_succ]
  refine wpAnyH_ready (rs := [4]) (by kernel_rfl) (by simp) ?_
  refine AllReadyH.cons (o := ⟨some 9, _, _, _, _, _⟩) rfl (fun K hK => ?_) AllReadyH.nil
  go_simp
  refine Calls.mono (del_Grant (pEL s) (.agg #[.int .i64 s.f0, .int .i64 s.f1]) l AK n cK (w.heap.size + 1) _ _ h0 (Nat.le_refl _) GK (fun W x => has_lent x s W)) ?_
  rintro e xD ⟨A2, c2, rfl, hD, hC⟩
  have GD := Lib.hid (hD.mono (Nat.le_succ w.heap.size) hC.size)
  have Q1 := hHeld.1.chg hC (by omega)
  have Q2 := hHeld.2.trans (hC.below (Or.inl (Nat.le_succ _)) hHeld.2.size)
  refine hK.out _ _ ⟨Q1, Q2⟩ (fun hHeld' => ?_)
  clear hK K hHeld hC hD Q1 Q2 GK
  have hHeld := hHeld'
  clear hHeld'
  try simp only [Act.put, List.setIfInBounds_toArray, List.set_cons_zero, List.set_cons_succ]
  refine wpAnyH_take (i := 5) (oi := ⟨some 4, _, _, _, _, _⟩) (v := ?_) rfl (by kernel_rfl) (by kernel_rfl) (by kernel_rfl) (fun _ _ _ h => h) (Or.inl ⟨by kernel_rfl, ?_⟩) hHeld ?_
  rotate_left
  focus (intro W hS; have c0_0 := (hS.1).at_ (j := 0) rfl; have c0_1 := (hS.1).at_ (j := 1) rfl; clear hS; first | (go_simp; done) | (go_simp; with_reducible rfl))
  try simp only [Act.put, List.setIfInBounds_toArray, List.set_cons_zero, List.set_cons_succ]
  refine wpAnyH_done (by kernel_rfl) ?_ _
  go_wp2_with fail
  go_ret
  exact ⟨A2, c2, rfl, GD.out, hHeld.2⟩

end Go.Proofs.Ytfceddgacefejaa
