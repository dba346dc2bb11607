/- Merged: AplC, AplD, EByB, Val, ItB, Rply, L5C, AplS, EEdit, AplT, RunE, TabDoc. -/
import Derived.Test.YtjgcgipglmhgeaaGreatMgA1
import Derived.Test.YtjgcgipglmhgeaaGreatTEdit
import Derived.Test.YtjgcgipglmhgeaaGreatFun
import Derived.RangeFuncNested
import Derived.RangeFuncBox
import Derived.RangeFuncBound
import Derived.RangeFuncCalls
import Derived.RangeFuncLeaves
import Derived.Shelf.Abstract
import Derived.Shelf.RegionOpen
import Derived.WalkKit
import Derived.OwnWalkIn
import Derived.TacticsInMore
import Derived.LoopNIn
import Derived.LoopIn
import Derived.Maps.AppendAt
import Derived.IntWalk
import Derived.BigQuiet
import Derived.Deep.QuietTactic
import Derived.WalkSpells
import Derived.Lib.SliceRun
import Derived.Test.YtjgcgipglmhgeaaGreatTSite
import Derived.Test.YtjgcgipglmhgeaaGreatSlI
namespace Go.Proofs.YtjgcgipglmhgeaaGreat
open Go Go.ChangeShapes Go.WideShapes Go.ChangeAt Go.RowKit Go.Lib
set_option linter.unusedVariables false
set_option linter.unusedSimpArgs false
set_option maxRecDepth 100000

theorem rd_box5 {w : World} {g : Nat} {t : TypeId} {cs : Array Value} (h : BoxAt w g t cs) (hn : cs.size = 5) : Rd w g (g + 1) 5 (some ⟨g, 0, none⟩) 1 cs.toList :=
  ⟨by simpa using hn, fun _ => ⟨g, 0, rfl, Nat.le_refl _, by omega, fun j u hu => by rw [Nat.zero_add]; exact h.at_ (by simpa using hu)⟩⟩
theorem clone_base (base : Nat) (l : List TNode) (A : Option Addr) (n c lo hi : Nat) (w : World) (hb : base ≤ w.heap.size) (hn : n ≤ 1048576) (hr : Rd w lo hi 5 A n (cNode l)) :
    Calls Tryz.prog 133 #[.slice A n c] w (fun e w' => ∃ v, e = .returned v ∧ w'.ownsRow base 70 5 v n (cNode l) ∧ Below w.heap.size w w') :=
  (clone_Node l A n c lo hi w hn hr).mono fun _ _ ⟨v, he, ho, h⟩ => ⟨v, he, own_base ho hb, h⟩
theorem one_node (e : TEdit) : ∀ u ∈ (#[.int .i64 e.f1, .int .i64 e.f2, .int .i64 e.f3, .int .i64 e.f4, .int .i64 e.f5] : Array Value).toList, u.oneCell' = true := by
  intro u hu
  simp only [List.mem_cons, List.not_mem_nil, or_false] at hu
  rcases hu with rfl | rfl | rfl | rfl | rfl <;> rfl
set_option maxHeartbeats 16000000 in
theorem add_apply (e : TEdit) (l : List TNode) (A : Option Addr) (n c lo hi B m : Nat) (w : World) (hn : n ≤ 16) (hr : Rd w lo hi 5 A n (cNode l)) (hok : Hid (cNodeOk l)) (he : Hid (TEdit.fit e)) (hM : MapAt w B m (idx l)) (hdoc : mIsDoc l = true) :
    Calls Tryz.prog 179 #[.agg #[.int .i64 e.f0, .int .i64 e.f1, .int .i64 e.f2, .int .i64 e.f3, .int .i64 e.f4, .int .i64 e.f5], .agg #[.slice A n c, .map (some B)]] w (Gives (mAdd l e) w) := by
  have HL := Lib.hid (rd_len TNode.len hr (by decide))
  have HD := Lib.hid hdoc
  have HR0 := Lib.hid (hr.old (by decide))
  have HR := Lib.hid (((hr.old (by decide)).alloc (.cells #[.int .i64 e.f0, .int .i64 e.f1, .int .i64 e.f2, .int .i64 e.f3, .int .i64 e.f4, .int .i64 e.f5] 231)).alloc (.cells #[.slice A n c, .map (some B)] 131))
  have HM := Lib.hid ((hM.alloc_ (.cells #[.int .i64 e.f0, .int .i64 e.f1, .int .i64 e.f2, .int .i64 e.f3, .int .i64 e.f4, .int .i64 e.f5] 231)).alloc_ (.cells #[.slice A n c, .map (some B)] 131))
  have KB := Lib.hid ((box_new w 231 #[.int .i64 e.f0, .int .i64 e.f1, .int .i64 e.f2, .int .i64 e.f3, .int .i64 e.f4, .int .i64 e.f5]).alloc_ (.cells #[.slice A n c, .map (some B)] 131))
  have KP : Hid (BoxAt ((w.alloc (.cells #[.int .i64 e.f0, .int .i64 e.f1, .int .i64 e.f2, .int .i64 e.f3, .int .i64 e.f4, .int .i64 e.f5] 231)).alloc (.cells #[.slice A n c, .map (some B)] 131)) (w.heap.size + 1) 131 #[.slice A n c, .map (some B)]) := Lib.hid (by simpa using box_new (w.alloc (.cells #[.int .i64 e.f0, .int .i64 e.f1, .int .i64 e.f2, .int .i64 e.f3, .int .i64 e.f4, .int .i64 e.f5] 231)) 131 #[.slice A n c, .map (some B)])
  have HB0 := Lib.hid (((Below.refl w.heap.size w).alloc (Nat.le_refl _) (.cells #[.int .i64 e.f0, .int .i64 e.f1, .int .i64 e.f2, .int .i64 e.f3, .int .i64 e.f4, .int .i64 e.f5] 231)).alloc (by simp) (.cells #[.slice A n c, .map (some B)] 131))
  have W1 := Lib.hid (show (Lit.int .i64 e.f1).wf = true from WalkArith.wf_i64 he.out.2.1)
  have W2 := Lib.hid (show (Lit.int .i64 e.f2).wf = true from WalkArith.wf_i64 he.out.2.2.1)
  have KL1 : Hid (BoxAt (((w.alloc (.cells #[.int .i64 e.f0, .int .i64 e.f1, .int .i64 e.f2, .int .i64 e.f3, .int .i64 e.f4, .int .i64 e.f5] 231)).alloc (.cells #[.slice A n c, .map (some B)] 131)).alloc (.cells #[.int .i64 e.f1] 3)) (w.heap.size + 1 + 1) 3 #[.int .i64 e.f1]) := Lib.hid (by simpa using box_new ((w.alloc (.cells #[.int .i64 e.f0, .int .i64 e.f1, .int .i64 e.f2, .int .i64 e.f3, .int .i64 e.f4, .int .i64 e.f5] 231)).alloc (.cells #[.slice A n c, .map (some B)] 131)) 3 #[.int .i64 e.f1])
  have KL2 : Hid (BoxAt (((w.alloc (.cells #[.int .i64 e.f0, .int .i64 e.f1, .int .i64 e.f2, .int .i64 e.f3, .int .i64 e.f4, .int .i64 e.f5] 231)).alloc (.cells #[.slice A n c, .map (some B)] 131)).alloc (.cells #[.int .i64 e.f1, .int .i64 e.f2] 3)) (w.heap.size + 1 + 1) 3 #[.int .i64 e.f1, .int .i64 e.f2]) := Lib.hid (by simpa using box_new ((w.alloc (.cells #[.int .i64 e.f0, .int .i64 e.f1, .int .i64 e.f2, .int .i64 e.f3, .int .i64 e.f4, .int .i64 e.f5] 231)).alloc (.cells #[.slice A n c, .map (some B)] 131)) 3 #[.int .i64 e.f1, .int .i64 e.f2])
  clear hr hM hdoc
  cases h1 : (idx l e.f1).isSome with
  | true =>
    have HE := Lib.hid (show mAdd l e = none by unfold mAdd mayAdd; simp [h1])
    go_enter Tryz.func179, Tryz.ntmps179
    go_wp2_with fail
    refine (page_has1 l A n c B m e.f1 _ _ (HM.out.alloc_ _) W1.out (KL1.out.at_ rfl)).mono ?_
    rintro e1 w1 ⟨rfl, hb⟩
    rw [h1]
    have HB1 := Lib.hid (below_trans (HB0.out.alloc (by simp <;> omega) (.cells #[.int .i64 e.f1] 3)) hb (by simp <;> omega))
    have KB1 := Lib.hid ((KB.out.alloc_ (.cells #[.int .i64 e.f1] 3)).new hb)
    have KP1 := Lib.hid ((KP.out.alloc_ (.cells #[.int .i64 e.f1] 3)).new hb)
    have HM1 := Lib.hid ((HM.out.alloc_ (.cells #[.int .i64 e.f1] 3)).new hb)
    have HR1 := Lib.hid ((HR.out.alloc (.cells #[.int .i64 e.f1] 3)).new hb)
    have hs1 : w.heap.size + 2 < w1.heap.size := by have := hb.size; simp at this; omega
    clear hb KB KP HM HR HB0 KL1 KL2
    have k0 := KB1.out.at_ (j := 0) rfl
    have k1 := KB1.out.at_ (j := 1) rfl
    have k2 := KB1.out.at_ (j := 2) rfl
    have k3 := KB1.out.at_ (j := 3) rfl
    have k4 := KB1.out.at_ (j := 4) rfl
    have k5 := KB1.out.at_ (j := 5) rfl
    have p0 := KP1.out.at_ (j := 0) rfl
    have p1 := KP1.out.at_ (j := 1) rfl
    go_wp2_with fail
    go_ret2
    rw [HE.out]
    exact gives_none HB1.out
  | false =>
    cases h2 : (idx l e.f2).isSome with
    | false =>
      have HE := Lib.hid (show mAdd l e = none by unfold mAdd mayAdd; simp [h2])
      go_enter Tryz.func179, Tryz.ntmps179
      go_wp2_with fail
      refine (page_has1 l A n c B m e.f1 _ _ (HM.out.alloc_ _) W1.out (KL1.out.at_ rfl)).mono ?_
      rintro e1 w1 ⟨rfl, hb⟩
      rw [h1]
      have HB1 := Lib.hid (below_trans (HB0.out.alloc (by simp <;> omega) (.cells #[.int .i64 e.f1] 3)) hb (by simp <;> omega))
      have KB1 := Lib.hid ((KB.out.alloc_ (.cells #[.int .i64 e.f1] 3)).new hb)
      have KP1 := Lib.hid ((KP.out.alloc_ (.cells #[.int .i64 e.f1] 3)).new hb)
      have HM1 := Lib.hid ((HM.out.alloc_ (.cells #[.int .i64 e.f1] 3)).new hb)
      have HR1 := Lib.hid ((HR.out.alloc (.cells #[.int .i64 e.f1] 3)).new hb)
      have hs1 : w.heap.size + 2 < w1.heap.size := by have := hb.size; simp at this; omega
      clear hb KB KP HM HR HB0 KL1 KL2
      have k0 := KB1.out.at_ (j := 0) rfl
      have k1 := KB1.out.at_ (j := 1) rfl
      have k2 := KB1.out.at_ (j := 2) rfl
      have k3 := KB1.out.at_ (j := 3) rfl
      have k4 := KB1.out.at_ (j := 4) rfl
      have k5 := KB1.out.at_ (j := 5) rfl
      have p0 := KP1.out.at_ (j := 0) rfl
      have p1 := KP1.out.at_ (j := 1) rfl
      go_wp2_with fail
      refine (page_has1 l A n c B m e.f2 w1.heap.size _ (HM1.out.alloc_ _) W2.out ((box_new w1 3 #[.int .i64 e.f2]).at_ rfl)).mono ?_
      rintro e2 w2 ⟨rfl, hb⟩
      rw [h2]
      have HB2 := Lib.hid (below_trans (HB1.out.alloc (by omega) (.cells #[.int .i64 e.f2] 3)) hb (by simp <;> omega))
      have KB2 := Lib.hid ((KB1.out.alloc_ (.cells #[.int .i64 e.f2] 3)).new hb)
      have KP2 := Lib.hid ((KP1.out.alloc_ (.cells #[.int .i64 e.f2] 3)).new hb)
      have HR2 := Lib.hid ((HR1.out.alloc (.cells #[.int .i64 e.f2] 3)).new hb)
      have hs2 : w.heap.size + 2 < w2.heap.size := by have := hb.size; simp at this; omega
      clear hb KB1 KP1 HM1 HR1 HB1 k0 k1 k2 k3 k4 k5 p0 p1
      have k0 := KB2.out.at_ (j := 0) rfl
      have k1 := KB2.out.at_ (j := 1) rfl
      have k2 := KB2.out.at_ (j := 2) rfl
      have k3 := KB2.out.at_ (j := 3) rfl
      have k4 := KB2.out.at_ (j := 4) rfl
      have k5 := KB2.out.at_ (j := 5) rfl
      have p0 := KP2.out.at_ (j := 0) rfl
      have p1 := KP2.out.at_ (j := 1) rfl
      go_wp2_with fail
      go_ret2
      rw [HE.out]
      exact gives_none HB2.out
    | true =>
      by_cases h3 : e.f1 < e.f2
      · have g3 : decide (e.f1 < e.f2) = true := by simpa using h3
        have HE := Lib.hid (show mAdd l e = none by unfold mAdd mayAdd; simp [h3])
        clear h3
        go_enter Tryz.func179, Tryz.ntmps179
        go_wp2_with fail
        refine (page_has1 l A n c B m e.f1 _ _ (HM.out.alloc_ _) W1.out (KL1.out.at_ rfl)).mono ?_
        rintro e1 w1 ⟨rfl, hb⟩
        rw [h1]
        have HB1 := Lib.hid (below_trans (HB0.out.alloc (by simp <;> omega) (.cells #[.int .i64 e.f1] 3)) hb (by simp <;> omega))
        have KB1 := Lib.hid ((KB.out.alloc_ (.cells #[.int .i64 e.f1] 3)).new hb)
        have KP1 := Lib.hid ((KP.out.alloc_ (.cells #[.int .i64 e.f1] 3)).new hb)
        have HM1 := Lib.hid ((HM.out.alloc_ (.cells #[.int .i64 e.f1] 3)).new hb)
        have HR1 := Lib.hid ((HR.out.alloc (.cells #[.int .i64 e.f1] 3)).new hb)
        have hs1 : w.heap.size + 2 < w1.heap.size := by have := hb.size; simp at this; omega
        clear hb KB KP HM HR HB0 KL1 KL2
        have k0 := KB1.out.at_ (j := 0) rfl
        have k1 := KB1.out.at_ (j := 1) rfl
        have k2 := KB1.out.at_ (j := 2) rfl
        have k3 := KB1.out.at_ (j := 3) rfl
        have k4 := KB1.out.at_ (j := 4) rfl
        have k5 := KB1.out.at_ (j := 5) rfl
        have p0 := KP1.out.at_ (j := 0) rfl
        have p1 := KP1.out.at_ (j := 1) rfl
        go_wp2_with fail
        refine (page_has1 l A n c B m e.f2 w1.heap.size _ (HM1.out.alloc_ _) W2.out ((box_new w1 3 #[.int .i64 e.f2]).at_ rfl)).mono ?_
        rintro e2 w2 ⟨rfl, hb⟩
        rw [h2]
        have HB2 := Lib.hid (below_trans (HB1.out.alloc (by omega) (.cells #[.int .i64 e.f2] 3)) hb (by simp <;> omega))
        have KB2 := Lib.hid ((KB1.out.alloc_ (.cells #[.int .i64 e.f2] 3)).new hb)
        have KP2 := Lib.hid ((KP1.out.alloc_ (.cells #[.int .i64 e.f2] 3)).new hb)
        have HR2 := Lib.hid ((HR1.out.alloc (.cells #[.int .i64 e.f2] 3)).new hb)
        have hs2 : w.heap.size + 2 < w2.heap.size := by have := hb.size; simp at this; omega
        clear hb KB1 KP1 HM1 HR1 HB1 k0 k1 k2 k3 k4 k5 p0 p1
        have k0 := KB2.out.at_ (j := 0) rfl
        have k1 := KB2.out.at_ (j := 1) rfl
        have k2 := KB2.out.at_ (j := 2) rfl
        have k3 := KB2.out.at_ (j := 3) rfl
        have k4 := KB2.out.at_ (j := 4) rfl
        have k5 := KB2.out.at_ (j := 5) rfl
        have p0 := KP2.out.at_ (j := 0) rfl
        have p1 := KP2.out.at_ (j := 1) rfl
        go_wp2_with fail
        go_ret2
        rw [HE.out]
        exact gives_none HB2.out
      · have g3 : decide (e.f1 < e.f2) = false := by simpa using h3
        by_cases h4 : 16 ≤ n
        · have g4 : decide ((16 : Int) ≤ (n : Int)) = true := by simp; omega
          have HE := Lib.hid (show mAdd l e = none by unfold mAdd mayAdd; simp [HL.out, h4])
          clear h3 h4
          go_enter Tryz.func179, Tryz.ntmps179
          go_wp2_with fail
          refine (page_has1 l A n c B m e.f1 _ _ (HM.out.alloc_ _) W1.out (KL1.out.at_ rfl)).mono ?_
          rintro e1 w1 ⟨rfl, hb⟩
          rw [h1]
          have HB1 := Lib.hid (below_trans (HB0.out.alloc (by simp <;> omega) (.cells #[.int .i64 e.f1] 3)) hb (by simp <;> omega))
          have KB1 := Lib.hid ((KB.out.alloc_ (.cells #[.int .i64 e.f1] 3)).new hb)
          have KP1 := Lib.hid ((KP.out.alloc_ (.cells #[.int .i64 e.f1] 3)).new hb)
          have HM1 := Lib.hid ((HM.out.alloc_ (.cells #[.int .i64 e.f1] 3)).new hb)
          have HR1 := Lib.hid ((HR.out.alloc (.cells #[.int .i64 e.f1] 3)).new hb)
          have hs1 : w.heap.size + 2 < w1.heap.size := by have := hb.size; simp at this; omega
          clear hb KB KP HM HR HB0 KL1 KL2
          have k0 := KB1.out.at_ (j := 0) rfl
          have k1 := KB1.out.at_ (j := 1) rfl
          have k2 := KB1.out.at_ (j := 2) rfl
          have k3 := KB1.out.at_ (j := 3) rfl
          have k4 := KB1.out.at_ (j := 4) rfl
          have k5 := KB1.out.at_ (j := 5) rfl
          have p0 := KP1.out.at_ (j := 0) rfl
          have p1 := KP1.out.at_ (j := 1) rfl
          go_wp2_with fail
          refine (page_has1 l A n c B m e.f2 w1.heap.size _ (HM1.out.alloc_ _) W2.out ((box_new w1 3 #[.int .i64 e.f2]).at_ rfl)).mono ?_
          rintro e2 w2 ⟨rfl, hb⟩
          rw [h2]
          have HB2 := Lib.hid (below_trans (HB1.out.alloc (by omega) (.cells #[.int .i64 e.f2] 3)) hb (by simp <;> omega))
          have KB2 := Lib.hid ((KB1.out.alloc_ (.cells #[.int .i64 e.f2] 3)).new hb)
          have KP2 := Lib.hid ((KP1.out.alloc_ (.cells #[.int .i64 e.f2] 3)).new hb)
          have HR2 := Lib.hid ((HR1.out.alloc (.cells #[.int .i64 e.f2] 3)).new hb)
          have hs2 : w.heap.size + 2 < w2.heap.size := by have := hb.size; simp at this; omega
          clear hb KB1 KP1 HM1 HR1 HB1 k0 k1 k2 k3 k4 k5 p0 p1
          have k0 := KB2.out.at_ (j := 0) rfl
          have k1 := KB2.out.at_ (j := 1) rfl
          have k2 := KB2.out.at_ (j := 2) rfl
          have k3 := KB2.out.at_ (j := 3) rfl
          have k4 := KB2.out.at_ (j := 4) rfl
          have k5 := KB2.out.at_ (j := 5) rfl
          have p0 := KP2.out.at_ (j := 0) rfl
          have p1 := KP2.out.at_ (j := 1) rfl
          go_wp2_with fail
          go_ret2
          rw [HE.out]
          exact gives_none HB2.out
        · have g4 : decide ((16 : Int) ≤ (n : Int)) = false := by simp; omega
          have HE := Lib.hid (show mAdd l e = some (insAt l e) by unfold mAdd mayAdd; simp [h1, h2, HL.out, h3, h4])
          have HN := Lib.hid h1
          clear h3 h4
          go_enter Tryz.func179, Tryz.ntmps179
          go_wp2_with fail
          refine (page_has1 l A n c B m e.f1 _ _ (HM.out.alloc_ _) W1.out (KL1.out.at_ rfl)).mono ?_
          rintro e1 w1 ⟨rfl, hb⟩
          rw [h1]
          have HB1 := Lib.hid (below_trans (HB0.out.alloc (by simp <;> omega) (.cells #[.int .i64 e.f1] 3)) hb (by simp <;> omega))
          have KB1 := Lib.hid ((KB.out.alloc_ (.cells #[.int .i64 e.f1] 3)).new hb)
          have KP1 := Lib.hid ((KP.out.alloc_ (.cells #[.int .i64 e.f1] 3)).new hb)
          have HM1 := Lib.hid ((HM.out.alloc_ (.cells #[.int .i64 e.f1] 3)).new hb)
          have HR1 := Lib.hid ((HR.out.alloc (.cells #[.int .i64 e.f1] 3)).new hb)
          have hs1 : w.heap.size + 2 < w1.heap.size := by have := hb.size; simp at this; omega
          clear hb KB KP HM HR HB0 KL1 KL2
          have k0 := KB1.out.at_ (j := 0) rfl
          have k1 := KB1.out.at_ (j := 1) rfl
          have k2 := KB1.out.at_ (j := 2) rfl
          have k3 := KB1.out.at_ (j := 3) rfl
          have k4 := KB1.out.at_ (j := 4) rfl
          have k5 := KB1.out.at_ (j := 5) rfl
          have p0 := KP1.out.at_ (j := 0) rfl
          have p1 := KP1.out.at_ (j := 1) rfl
          go_wp2_with fail
          refine (page_has1 l A n c B m e.f2 w1.heap.size _ (HM1.out.alloc_ _) W2.out ((box_new w1 3 #[.int .i64 e.f2]).at_ rfl)).mono ?_
          rintro e2 w2 ⟨rfl, hb⟩
          rw [h2]
          have HB2 := Lib.hid (below_trans (HB1.out.alloc (by omega) (.cells #[.int .i64 e.f2] 3)) hb (by simp <;> omega))
          have KB2 := Lib.hid ((KB1.out.alloc_ (.cells #[.int .i64 e.f2] 3)).new hb)
          have KP2 := Lib.hid ((KP1.out.alloc_ (.cells #[.int .i64 e.f2] 3)).new hb)
          have HR2 := Lib.hid ((HR1.out.alloc (.cells #[.int .i64 e.f2] 3)).new hb)
          have hs2 : w.heap.size + 2 < w2.heap.size := by have := hb.size; simp at this; omega
          clear hb KB1 KP1 HM1 HR1 HB1 k0 k1 k2 k3 k4 k5 p0 p1
          have k0 := KB2.out.at_ (j := 0) rfl
          have k1 := KB2.out.at_ (j := 1) rfl
          have k2 := KB2.out.at_ (j := 2) rfl
          have k3 := KB2.out.at_ (j := 3) rfl
          have k4 := KB2.out.at_ (j := 4) rfl
          have k5 := KB2.out.at_ (j := 5) rfl
          have p0 := KP2.out.at_ (j := 0) rfl
          have p1 := KP2.out.at_ (j := 1) rfl
          have KZ := box_new w2 70 #[.int .i64 0, .int .i64 0, .int .i64 0, .int .i64 0, .int .i64 0]
          have KX := Lib.hid (box_row (cs := #[.int .i64 e.f1, .int .i64 e.f2, .int .i64 e.f3, .int .i64 e.f4, .int .i64 e.f5]) KZ)
          have KPx := Lib.hid (box_far (cs := #[.int .i64 e.f1, .int .i64 e.f2, .int .i64 e.f3, .int .i64 e.f4, .int .i64 e.f5]) (g := w2.heap.size) (KP2.out.alloc_ (.cells #[.int .i64 0, .int .i64 0, .int .i64 0, .int .i64 0, .int .i64 0] 70)) (by omega))
          have HBx := Lib.hid (below_setRow (HB2.out.alloc (by omega) (.cells #[.int .i64 0, .int .i64 0, .int .i64 0, .int .i64 0, .int .i64 0] 70)) (show w.heap.size ≤ w2.heap.size by omega) #[.int .i64 e.f1, .int .i64 e.f2, .int .i64 e.f3, .int .i64 e.f4, .int .i64 e.f5])
          have HKZ := Lib.hid KZ
          clear KZ
          go_wp2_with (refine wpList_store_row rfl 70 _ _ rfl w2.heap.size #[.int .i64 e.f1, .int .i64 e.f2, .int .i64 e.f3, .int .i64 e.f4, .int .i64 e.f5] rfl rfl 70 _ HKZ.out (by kernel_rfl) (by kernel_rfl) (by kernel_rfl) ?_; generalize World.setRow (w2.alloc (.cells #[.int .i64 0, .int .i64 0, .int .i64 0, .int .i64 0, .int .i64 0] 70)) w2.heap.size #[.int .i64 e.f1, .int .i64 e.f2, .int .i64 e.f3, .int .i64 e.f4, .int .i64 e.f5] = w3 at KX KPx HBx ⊢)
          have HR3 := Lib.hid (HR0.out.below HBx.out (Nat.le_refl _))
          have hx3 := KX.out.lt
          refine wp_region_held_drew (S := fun w' => BoxAt w' (w.heap.size + 1) 131 #[.slice A n c, .map (some B)] ∧ BoxAt w' w2.heap.size 70 #[.int .i64 e.f1, .int .i64 e.f2, .int .i64 e.f3, .int .i64 e.f4, .int .i64 e.f5] ∧ Below w3.heap.size w3 w') (by kernel_rfl) ?_ (fun hHeld => ?_)
          · exact ⟨KPx.out.drw, KX.out.drw, (Below.refl _ _).drew⟩
          generalize (World.drew _) = x0 at hHeld ⊢
          refine wpAnyH_take (i := 0) (oi := ⟨some 45, _, _, _, _, _⟩) (v := ?_) rfl (by kernel_rfl) (by kernel_rfl) (by kernel_rfl) (fun _ _ _ h => h) (Or.inl ⟨by kernel_rfl, ?_⟩) hHeld ?_
          rotate_left
          focus (intro W hS; have c0_0 := (hS.1).at_ (j := 0) rfl; have c0_1 := (hS.1).at_ (j := 1) rfl; have c1_0 := (hS.2.1).at_ (j := 0) rfl; have c1_1 := (hS.2.1).at_ (j := 1) rfl; have c1_2 := (hS.2.1).at_ (j := 2) rfl; have c1_3 := (hS.2.1).at_ (j := 3) rfl; have c1_4 := (hS.2.1).at_ (j := 4) rfl; clear hS; first | (go_simp; done) | (go_simp; with_reducible rfl))
          try simp only [Act.put, List.setIfInBounds_toArray, List.set_cons_zero, List.set_cons_succ]
          refine wpAnyH_take (i := 1) (oi := ⟨some 46, _, _, _, _, _⟩) (v := ?_) rfl (by kernel_rfl) (by kernel_rfl) (by kernel_rfl) (fun _ _ _ h => h) (Or.inl ⟨by kernel_rfl, ?_⟩) hHeld ?_
          rotate_left
          focus (intro W hS; have c0_0 := (hS.1).at_ (j := 0) rfl; have c0_1 := (hS.1).at_ (j := 1) rfl; have c1_0 := (hS.2.1).at_ (j := 0) rfl; have c1_1 := (hS.2.1).at_ (j := 1) rfl; have c1_2 := (hS.2.1).at_ (j := 2) rfl; have c1_3 := (hS.2.1).at_ (j := 3) rfl; have c1_4 := (hS.2.1).at_ (j := 4) rfl; clear hS; first | (go_simp; done) | (go_simp; with_reducible rfl))
          try simp only [Act.put, List.setIfInBounds_toArray, List.set_cons_zero, List.set_cons_succ]
          refine wpAnyH_take (i := 3) (oi := ⟨some 48, _, _, _, _, _⟩) (v := ?_) rfl (by kernel_rfl) (by kernel_rfl) (by kernel_rfl) (fun _ _ _ h => h) (Or.inl ⟨by kernel_rfl, ?_⟩) hHeld ?_
          rotate_left
          focus (intro W hS; have c0_0 := (hS.1).at_ (j := 0) rfl; have c0_1 := (hS.1).at_ (j := 1) rfl; have c1_0 := (hS.2.1).at_ (j := 0) rfl; have c1_1 := (hS.2.1).at_ (j := 1) rfl; have c1_2 := (hS.2.1).at_ (j := 2) rfl; have c1_3 := (hS.2.1).at_ (j := 3) rfl; have c1_4 := (hS.2.1).at_ (j := 4) rfl; clear hS; first | (go_simp; done) | (go_simp; with_reducible rfl))
          try simp only [Act.put, List.setIfInBounds_toArray, List.set_cons_zero, List.set_cons_succ]
          refine wpAnyH_ready (rs := [2, 4]) (by kernel_rfl) (by simp) ?_
          refine AllReadyH.cons (o := ⟨some 47, _, _, _, _, _⟩) rfl (fun K hK => ?_) ?_
          · skip
            go_simp
            refine Calls.mono (clone_base w3.heap.size l A n c 0 w.heap.size _ hHeld.2.2.size (by omega) (HR3.out.new hHeld.2.2)) ?_
            rintro e x1 ⟨vK, rfl, GK, hb1⟩
            refine hK.out _ _ ⟨hHeld.1.new hb1, hHeld.2.1.new hb1, below_trans hHeld.2.2 hb1 (Nat.le_refl _)⟩ (fun hHeld' => ?_)
            clear hK K hHeld hb1
            have hHeld := hHeld'
            clear hHeld'
            try simp only [Act.put, List.setIfInBounds_toArray, List.set_cons_zero, List.set_cons_succ]
            refine wpAnyH_ready (rs := [4]) (by kernel_rfl) (by simp) ?_
            refine AllReadyH.cons (o := ⟨some 49, _, _, _, _, _⟩) rfl (fun K hK => ?_) AllReadyH.nil
            go_simp
            have Gb4 := box_new (x1) 70 #[.int .i64 e.f1, .int .i64 e.f2, .int .i64 e.f3, .int .i64 e.f4, .int .i64 e.f5]
            have hb1 := (Below.refl (x1).heap.size (x1)).alloc (Nat.le_refl _) (.cells #[.int .i64 e.f1, .int .i64 e.f2, .int .i64 e.f3, .int .i64 e.f4, .int .i64 e.f5] 70)
            have Lb4 : w3.heap.size ≤ (x1).heap.size := by have := (hHeld.1).lt; have := (hHeld.2.1).lt; have := (hHeld.2.2).size; omega
            have M0b4 : (w.heap.size + 1) < (x1).heap.size := (hHeld.1).lt
            have M1b4 : w2.heap.size < (x1).heap.size := (hHeld.2.1).lt
            replace GK := own_newer GK hb1
            generalize (x1).alloc (.cells #[.int .i64 e.f1, .int .i64 e.f2, .int .i64 e.f3, .int .i64 e.f4, .int .i64 e.f5] 70) = x2 at hb1 Gb4 GK ⊢
            generalize hg : (x1).heap.size = gb4 at Gb4 Lb4 M0b4 M1b4 ⊢
            clear hg
            refine hK.out _ _ ⟨hHeld.1.new hb1, hHeld.2.1.new hb1, below_trans hHeld.2.2 hb1 (Nat.le_refl _)⟩ (fun hHeld' => ?_)
            clear hK K hHeld hb1
            have hHeld := hHeld'
            clear hHeld'
            try simp only [Act.put, List.setIfInBounds_toArray, List.set_cons_zero, List.set_cons_succ]
            refine wpAnyH_ready (rs := [5]) (by kernel_rfl) (by simp) ?_
            refine AllReadyH.cons (o := ⟨some 50, _, _, _, _, _⟩) rfl (fun K hK => ?_) AllReadyH.nil
            refine step_appo rfl _ _ _ (by rfl) w3.heap.size 70 (.agg #[.int .i64 0, .int .i64 0, .int .i64 0, .int .i64 0, .int .i64 0]) 5 40 Tryz.underlying31 icNode rfl (by decide) vK (by rfl) (n) ((cNode l)) GK gb4 (gb4 + 1) (some ⟨gb4, 0, none⟩) 1 1 (#[.int .i64 e.f1, .int .i64 e.f2, .int .i64 e.f3, .int .i64 e.f4, .int .i64 e.f5] : Array Value).toList (by rfl) (rd_box5 Gb4 rfl) (one_node e) (by unfold maxLen; omega) (by omega) (by have := (hHeld.2.2).size; omega) ?_
            intro Vp x3 hO hb0 hgr
            have hsz0 := hb0.size
            clear Gb4
            have OWp := hO
            have hb1 := hb0.mono (show w3.heap.size ≤ w3.heap.size by omega)
            refine hK.out _ _ ⟨(by have := (hHeld.1).lt; exact hHeld.1.chg (chg_of_below hb0) (by omega)), (by have := (hHeld.2.1).lt; exact hHeld.2.1.chg (chg_of_below hb0) (by omega)), (hHeld.2.2).trans hb1⟩ (fun hHeld' => ?_)
            clear hK K hHeld hb1 hb0 hgr hO
            have hHeld := hHeld'
            clear hHeld'
            try simp only [Act.put, List.setIfInBounds_toArray, List.set_cons_zero, List.set_cons_succ]
            refine wpAnyH_take (i := 6) (oi := ⟨some 7, _, _, _, _, _⟩) (v := ?_) rfl (by kernel_rfl) (by kernel_rfl) (by kernel_rfl) (fun _ _ _ h => h) (Or.inl ⟨by kernel_rfl, ?_⟩) hHeld ?_
            rotate_left
            focus (intro W hS; have c0_0 := (hS.1).at_ (j := 0) rfl; have c0_1 := (hS.1).at_ (j := 1) rfl; have c1_0 := (hS.2.1).at_ (j := 0) rfl; have c1_1 := (hS.2.1).at_ (j := 1) rfl; have c1_2 := (hS.2.1).at_ (j := 2) rfl; have c1_3 := (hS.2.1).at_ (j := 3) rfl; have c1_4 := (hS.2.1).at_ (j := 4) rfl; clear hS; first | (go_simp; done) | (go_simp; with_reducible rfl))
            try simp only [Act.put, List.setIfInBounds_toArray, List.set_cons_zero, List.set_cons_succ]
            refine wpAnyH_done (by kernel_rfl) ?_ _
            obtain ⟨A4, c4, rfl, hF4⟩ := fr_of_own OWp
            have e4 : cNode l ++ (#[.int .i64 e.f1, .int .i64 e.f2, .int .i64 e.f3, .int .i64 e.f4, .int .i64 e.f5] : Array Value).toList = cNode (l ++ [nAdd e]) := by simp [cNode, TNode.cells, nAdd]
            rw [e4] at hF4
            have HF4 := Lib.hid hF4
            have HB4 := Lib.hid (HBx.out.trans (hHeld.2.2.mono HBx.out.size))
            have hs4 := HB4.out.size
            have hs3 := HBx.out.size
            clear hF4 OWp hHeld GK
            go_wp2_with fail
            refine (sortN_fr (l ++ [nAdd e]) A4 (n + 1) c4 w3.heap.size _ _ (by omega) (by omega) HF4.out).mono ?_
            rintro e5 w5 ⟨rfl, d, hp, hs, hF5, hc5⟩
            have hd : d = insAt l e := ins_one HD.out HN.out hp hs
            subst hd
            have HF5 := Lib.hid (hF5.mono (lo' := w.heap.size) (hi' := w5.heap.size) hs3 hc5.size)
            have HB5 := Lib.hid (HB4.out.trans (hc5.below (.inl hs3) hs4))
            clear hF5 hc5 hp hs
            go_wp2_with fail
            go_ret2
            rw [HE.out]
            exact gives_some (by rw [ins_len, HL.out]) HF5.out HB5.out
          refine AllReadyH.cons (o := ⟨some 49, _, _, _, _, _⟩) rfl (fun K hK => ?_) ?_
          · skip
            go_simp
            have Gb4 := box_new (x0) 70 #[.int .i64 e.f1, .int .i64 e.f2, .int .i64 e.f3, .int .i64 e.f4, .int .i64 e.f5]
            have hb1 := (Below.refl (x0).heap.size (x0)).alloc (Nat.le_refl _) (.cells #[.int .i64 e.f1, .int .i64 e.f2, .int .i64 e.f3, .int .i64 e.f4, .int .i64 e.f5] 70)
            have Lb4 : w3.heap.size ≤ (x0).heap.size := by have := (hHeld.1).lt; have := (hHeld.2.1).lt; have := (hHeld.2.2).size; omega
            have M0b4 : (w.heap.size + 1) < (x0).heap.size := (hHeld.1).lt
            have M1b4 : w2.heap.size < (x0).heap.size := (hHeld.2.1).lt
            generalize (x0).alloc (.cells #[.int .i64 e.f1, .int .i64 e.f2, .int .i64 e.f3, .int .i64 e.f4, .int .i64 e.f5] 70) = x1 at hb1 Gb4  ⊢
            generalize hg : (x0).heap.size = gb4 at Gb4 Lb4 M0b4 M1b4 ⊢
            clear hg
            refine hK.out _ _ ⟨hHeld.1.new hb1, hHeld.2.1.new hb1, below_trans hHeld.2.2 hb1 (Nat.le_refl _)⟩ (fun hHeld' => ?_)
            clear hK K hHeld hb1
            have hHeld := hHeld'
            clear hHeld'
            try simp only [Act.put, List.setIfInBounds_toArray, List.set_cons_zero, List.set_cons_succ]
            refine wpAnyH_ready (rs := [2]) (by kernel_rfl) (by simp) ?_
            refine AllReadyH.cons (o := ⟨some 47, _, _, _, _, _⟩) rfl (fun K hK => ?_) AllReadyH.nil
            go_simp
            refine Calls.mono (clone_base w3.heap.size l A n c 0 w.heap.size _ hHeld.2.2.size (by omega) (HR3.out.new hHeld.2.2)) ?_
            rintro e x2 ⟨vK, rfl, GK, hb1⟩
            replace Gb4 := Gb4.new hb1
            refine hK.out _ _ ⟨hHeld.1.new hb1, hHeld.2.1.new hb1, below_trans hHeld.2.2 hb1 (Nat.le_refl _)⟩ (fun hHeld' => ?_)
            clear hK K hHeld hb1
            have hHeld := hHeld'
            clear hHeld'
            try simp only [Act.put, List.setIfInBounds_toArray, List.set_cons_zero, List.set_cons_succ]
            refine wpAnyH_ready (rs := [5]) (by kernel_rfl) (by simp) ?_
            refine AllReadyH.cons (o := ⟨some 50, _, _, _, _, _⟩) rfl (fun K hK => ?_) AllReadyH.nil
            refine step_appo rfl _ _ _ (by rfl) w3.heap.size 70 (.agg #[.int .i64 0, .int .i64 0, .int .i64 0, .int .i64 0, .int .i64 0]) 5 40 Tryz.underlying31 icNode rfl (by decide) vK (by rfl) (n) ((cNode l)) GK gb4 (gb4 + 1) (some ⟨gb4, 0, none⟩) 1 1 (#[.int .i64 e.f1, .int .i64 e.f2, .int .i64 e.f3, .int .i64 e.f4, .int .i64 e.f5] : Array Value).toList (by rfl) (rd_box5 Gb4 rfl) (one_node e) (by unfold maxLen; omega) (by omega) (by have := (hHeld.2.2).size; omega) ?_
            intro Vp x3 hO hb0 hgr
            have hsz0 := hb0.size
            clear Gb4
            have OWp := hO
            have hb1 := hb0.mono (show w3.heap.size ≤ w3.heap.size by omega)
            refine hK.out _ _ ⟨(by have := (hHeld.1).lt; exact hHeld.1.chg (chg_of_below hb0) (by omega)), (by have := (hHeld.2.1).lt; exact hHeld.2.1.chg (chg_of_below hb0) (by omega)), (hHeld.2.2).trans hb1⟩ (fun hHeld' => ?_)
            clear hK K hHeld hb1 hb0 hgr hO
            have hHeld := hHeld'
            clear hHeld'
            try simp only [Act.put, List.setIfInBounds_toArray, List.set_cons_zero, List.set_cons_succ]
            refine wpAnyH_take (i := 6) (oi := ⟨some 7, _, _, _, _, _⟩) (v := ?_) rfl (by kernel_rfl) (by kernel_rfl) (by kernel_rfl) (fun _ _ _ h => h) (Or.inl ⟨by kernel_rfl, ?_⟩) hHeld ?_
            rotate_left
            focus (intro W hS; have c0_0 := (hS.1).at_ (j := 0) rfl; have c0_1 := (hS.1).at_ (j := 1) rfl; have c1_0 := (hS.2.1).at_ (j := 0) rfl; have c1_1 := (hS.2.1).at_ (j := 1) rfl; have c1_2 := (hS.2.1).at_ (j := 2) rfl; have c1_3 := (hS.2.1).at_ (j := 3) rfl; have c1_4 := (hS.2.1).at_ (j := 4) rfl; clear hS; first | (go_simp; done) | (go_simp; with_reducible rfl))
            try simp only [Act.put, List.setIfInBounds_toArray, List.set_cons_zero, List.set_cons_succ]
            refine wpAnyH_done (by kernel_rfl) ?_ _
            obtain ⟨A4, c4, rfl, hF4⟩ := fr_of_own OWp
            have e4 : cNode l ++ (#[.int .i64 e.f1, .int .i64 e.f2, .int .i64 e.f3, .int .i64 e.f4, .int .i64 e.f5] : Array Value).toList = cNode (l ++ [nAdd e]) := by simp [cNode, TNode.cells, nAdd]
            rw [e4] at hF4
            have HF4 := Lib.hid hF4
            have HB4 := Lib.hid (HBx.out.trans (hHeld.2.2.mono HBx.out.size))
            have hs4 := HB4.out.size
            have hs3 := HBx.out.size
            clear hF4 OWp hHeld GK
            go_wp2_with fail
            refine (sortN_fr (l ++ [nAdd e]) A4 (n + 1) c4 w3.heap.size _ _ (by omega) (by omega) HF4.out).mono ?_
            rintro e5 w5 ⟨rfl, d, hp, hs, hF5, hc5⟩
            have hd : d = insAt l e := ins_one HD.out HN.out hp hs
            subst hd
            have HF5 := Lib.hid (hF5.mono (lo' := w.heap.size) (hi' := w5.heap.size) hs3 hc5.size)
            have HB5 := Lib.hid (HB4.out.trans (hc5.below (.inl hs3) hs4))
            clear hF5 hc5 hp hs
            go_wp2_with fail
            go_ret2
            rw [HE.out]
            exact gives_some (by rw [ins_len, HL.out]) HF5.out HB5.out
          exact AllReadyH.nil
end Go.Proofs.YtjgcgipglmhgeaaGreat
namespace Go.Proofs.YtjgcgipglmhgeaaGreat
open Go Go.ChangeShapes Go.WideShapes Go.ChangeAt Go.RowKit Go.Lib
set_option linter.unusedVariables false
set_option linter.unusedSimpArgs false
set_option maxRecDepth 100000

theorem apply_none {f : FuncId} {a : Array Value} {w : World} {r : Option (List TNode)} (h : Calls Tryz.prog f a w (Gives r w)) (hr : r = none) : Calls Tryz.prog f a w (Says (.tuple #[.slice none 0 0, .bool false]) w) := h.mono fun _ _ h => h.1 hr
theorem apply_some (base : Nat) {f : FuncId} {a : Array Value} {w : World} {r : Option (List TNode)} {m : List TNode} (hb : base ≤ w.heap.size) (h : Calls Tryz.prog f a w (Gives r w)) (hr : r = some m) :
    Calls Tryz.prog f a w (fun e w' => ∃ A c, e = .returned (.tuple #[.slice A m.length c, .bool true]) ∧ Fr w' base w'.heap.size 70 5 A m.length c (cNode m) ∧ Below w.heap.size w w') :=
  h.mono fun _ _ h => by
    obtain ⟨A, c, he, hF, hB⟩ := h.2 m hr
    exact ⟨A, c, he, hF.mono hb (Nat.le_refl _), hB⟩
theorem changeOf_any (a0 : TEdit) (w : World) : Calls Tryz.prog 158 #[.agg #[.int .i64 a0.f0, .int .i64 a0.f1, .int .i64 a0.f2, .int .i64 a0.f3, .int .i64 a0.f4, .int .i64 a0.f5]] w (Says (.tuple #[changeVal a0, .bool (inR a0.f0 1 4)]) w) := impl_changeOf a0 w
theorem ahA_add (d : Nat) (x : Value) (w : World) : (nilAhead (d + 1) 231 x "loop.example/g03001/impl.apply").run Tryz.prog w = .ok (some false) w := by kernel_rfl
theorem mtA_add (d : Nat) (x : Value) (w : World) : (method (d + 1) 231 x "loop.example/g03001/impl.apply").run Tryz.prog w = .ok (179, x) w := by kernel_rfl
theorem ahA_drop (d : Nat) (x : Value) (w : World) : (nilAhead (d + 1) 232 x "loop.example/g03001/impl.apply").run Tryz.prog w = .ok (some false) w := by kernel_rfl
theorem mtA_drop (d : Nat) (x : Value) (w : World) : (method (d + 1) 232 x "loop.example/g03001/impl.apply").run Tryz.prog w = .ok (204, x) w := by kernel_rfl
theorem ahA_text (d : Nat) (x : Value) (w : World) : (nilAhead (d + 1) 233 x "loop.example/g03001/impl.apply").run Tryz.prog w = .ok (some false) w := by kernel_rfl
theorem mtA_text (d : Nat) (x : Value) (w : World) : (method (d + 1) 233 x "loop.example/g03001/impl.apply").run Tryz.prog w = .ok (210, x) w := by kernel_rfl
theorem ahA_move (d : Nat) (x : Value) (w : World) : (nilAhead (d + 1) 234 x "loop.example/g03001/impl.apply").run Tryz.prog w = .ok (some false) w := by kernel_rfl
theorem mtA_move (d : Nat) (x : Value) (w : World) : (method (d + 1) 234 x "loop.example/g03001/impl.apply").run Tryz.prog w = .ok (214, x) w := by kernel_rfl
set_option maxHeartbeats 16000000 in
theorem edited_no (e : TEdit) (l : List TNode) (A : Option Addr) (n c lo hi : Nat) (w : World) (hn : n ≤ 1048576) (hr : Rd w lo hi 5 A n (cNode l)) (hok : Hid (cNodeOk l)) (hno : (mIsDoc l && mIsEdit e) = false) :
    Calls Tryz.prog 134 #[.slice A n c, .agg #[.int .i64 e.f0, .int .i64 e.f1, .int .i64 e.f2, .int .i64 e.f3, .int .i64 e.f4, .int .i64 e.f5]] w (Says (.tuple #[.slice none 0 0, .bool false]) w) := by
  have HR0 := Lib.hid (hr.old (by decide))
  have KB0 := Lib.hid (box_new w 157 #[.int .i64 e.f0, .int .i64 e.f1, .int .i64 e.f2, .int .i64 e.f3, .int .i64 e.f4, .int .i64 e.f5])
  have HB0 := Lib.hid ((Below.refl w.heap.size w).alloc (Nat.le_refl _) (.cells #[.int .i64 e.f0, .int .i64 e.f1, .int .i64 e.f2, .int .i64 e.f3, .int .i64 e.f4, .int .i64 e.f5] 157))
  have C8 := Lib.hid (fun W => changeOf_any e W)
  have C2 := Lib.hid (fun W => impl_IsEdit_any e W)
  clear hr
  by_cases hk : inR e.f0 1 4 = true
  · by_cases hi2 : mIsEdit e = true
    · have hd : mIsDoc l = false := by rw [hi2, Bool.and_true] at hno; exact hno
      go_enter Tryz.func134, Tryz.ntmps134
      go_wp2_with fail
      refine (C8.out _).mono ?_
      rintro e1 w1 ⟨rfl, hb⟩
      rw [hk]
      have HB1 := Lib.hid (below_trans HB0.out hb (by simp))
      have KB1 := Lib.hid (KB0.out.new hb)
      have k0 := KB1.out.at_ (j := 0) rfl
      have k1 := KB1.out.at_ (j := 1) rfl
      have k2 := KB1.out.at_ (j := 2) rfl
      have k3 := KB1.out.at_ (j := 3) rfl
      have k4 := KB1.out.at_ (j := 4) rfl
      have k5 := KB1.out.at_ (j := 5) rfl
      clear hb
      go_wp2_with fail
      refine (C2.out _).mono ?_
      rintro e2 w2 ⟨rfl, hb⟩
      rw [hi2]
      have HB2 := Lib.hid (below_trans HB1.out hb (Nat.le_refl _))
      have KB2 := Lib.hid (KB1.out.new hb)
      clear hb
      go_wp2_with fail
      refine (impl_IsDocument l A n c 0 w.heap.size _ (by omega) (HR0.out.below HB2.out (Nat.le_refl _)) hok).mono ?_
      rintro e3 w3 ⟨rfl, hb⟩
      rw [hd]
      have HB3 := Lib.hid (below_trans HB2.out hb (Nat.le_refl _))
      have KB3 := Lib.hid (KB2.out.new hb)
      clear hb
      go_wp2_with fail
      go_ret2
      exact ⟨rfl, HB3.out⟩
    · have hi2 : mIsEdit e = false := by simpa using hi2
      go_enter Tryz.func134, Tryz.ntmps134
      go_wp2_with fail
      refine (C8.out _).mono ?_
      rintro e1 w1 ⟨rfl, hb⟩
      rw [hk]
      have HB1 := Lib.hid (below_trans HB0.out hb (by simp))
      have KB1 := Lib.hid (KB0.out.new hb)
      have k0 := KB1.out.at_ (j := 0) rfl
      have k1 := KB1.out.at_ (j := 1) rfl
      have k2 := KB1.out.at_ (j := 2) rfl
      have k3 := KB1.out.at_ (j := 3) rfl
      have k4 := KB1.out.at_ (j := 4) rfl
      have k5 := KB1.out.at_ (j := 5) rfl
      clear hb
      go_wp2_with fail
      refine (C2.out _).mono ?_
      rintro e2 w2 ⟨rfl, hb⟩
      rw [hi2]
      have HB2 := Lib.hid (below_trans HB1.out hb (Nat.le_refl _))
      have KB2 := Lib.hid (KB1.out.new hb)
      clear hb
      go_wp2_with fail
      go_ret2
      exact ⟨rfl, HB2.out⟩
  · have hk : inR e.f0 1 4 = false := by simpa using hk
    go_enter Tryz.func134, Tryz.ntmps134
    go_wp2_with fail
    refine (C8.out _).mono ?_
    rintro e1 w1 ⟨rfl, hb⟩
    rw [hk]
    have HB1 := Lib.hid (below_trans HB0.out hb (by simp))
    have KB1 := Lib.hid (KB0.out.new hb)
    have k0 := KB1.out.at_ (j := 0) rfl
    have k1 := KB1.out.at_ (j := 1) rfl
    have k2 := KB1.out.at_ (j := 2) rfl
    have k3 := KB1.out.at_ (j := 3) rfl
    have k4 := KB1.out.at_ (j := 4) rfl
    have k5 := KB1.out.at_ (j := 5) rfl
    clear hb
    go_wp2_with fail
    go_ret2
    exact ⟨rfl, HB1.out⟩
set_option maxHeartbeats 16000000 in
theorem edited_add (a1 a2 a3 a4 a5 : Int) (l : List TNode) (A : Option Addr) (n c lo hi : Nat) (w : World) (hn : n ≤ 1048576) (hr : Rd w lo hi 5 A n (cNode l)) (hok : Hid (cNodeOk l)) (he : Hid (TEdit.fit (⟨1, a1, a2, a3, a4, a5⟩ : TEdit))) (hdoc : mIsDoc l = true) (hed : mIsEdit (⟨1, a1, a2, a3, a4, a5⟩ : TEdit) = true) :
    Calls Tryz.prog 134 #[.slice A n c, .agg #[.int .i64 1, .int .i64 a1, .int .i64 a2, .int .i64 a3, .int .i64 a4, .int .i64 a5]] w (Gives (mAdd l (⟨1, a1, a2, a3, a4, a5⟩ : TEdit)) w) := by
  have HL := Lib.hid (rd_len TNode.len hr (by decide))
  have hn16 : n ≤ 16 := by
    have h := hdoc
    unfold mIsDoc at h
    rw [Bool.and_eq_true] at h
    have := inR_true.1 h.1
    have := HL.out
    omega
  have HR0 := Lib.hid (hr.old (by decide))
  have KB0 := Lib.hid (box_new w 157 #[.int .i64 1, .int .i64 a1, .int .i64 a2, .int .i64 a3, .int .i64 a4, .int .i64 a5])
  have HB0 := Lib.hid ((Below.refl w.heap.size w).alloc (Nat.le_refl _) (.cells #[.int .i64 1, .int .i64 a1, .int .i64 a2, .int .i64 a3, .int .i64 a4, .int .i64 a5] 157))
  have C8 : Hid (∀ W, Calls Tryz.prog 158 #[.agg #[.int .i64 1, .int .i64 a1, .int .i64 a2, .int .i64 a3, .int .i64 a4, .int .i64 a5]] W (Says (.tuple #[.iface 231 (.agg #[.int .i64 1, .int .i64 a1, .int .i64 a2, .int .i64 a3, .int .i64 a4, .int .i64 a5]), .bool true]) W)) := Lib.hid (fun W => changeOf_any (⟨1, a1, a2, a3, a4, a5⟩ : TEdit) W)
  have C2 : Hid (∀ W, Calls Tryz.prog 159 #[.agg #[.int .i64 1, .int .i64 a1, .int .i64 a2, .int .i64 a3, .int .i64 a4, .int .i64 a5]] W (Says (.bool true) W)) := Lib.hid (fun W => hed ▸ impl_IsEdit (⟨1, a1, a2, a3, a4, a5⟩ : TEdit) W he)
  have CA := Lib.hid (fun (B : Nat) (W : World) (h1 : Below w.heap.size w W) (h2 : MapAt W B n (idx l)) => add_apply (⟨1, a1, a2, a3, a4, a5⟩ : TEdit) l A n c 0 w.heap.size B n W hn16 (HR0.out.below h1 (Nat.le_refl _)) hok he h2 hdoc)
  have na := ahA_add
  have nm := mtA_add
  clear hr he hed
  cases hq : mAdd l (⟨1, a1, a2, a3, a4, a5⟩ : TEdit) with
  | none =>
    go_enter Tryz.func134, Tryz.ntmps134
    go_wp2_with fail
    refine (C8.out _).mono ?_
    rintro e1 w1 ⟨rfl, hb⟩
    skip
    have HB1 := Lib.hid (below_trans HB0.out hb (by simp))
    have KB1 := Lib.hid (KB0.out.new hb)
    have k0 := KB1.out.at_ (j := 0) rfl
    have k1 := KB1.out.at_ (j := 1) rfl
    have k2 := KB1.out.at_ (j := 2) rfl
    have k3 := KB1.out.at_ (j := 3) rfl
    have k4 := KB1.out.at_ (j := 4) rfl
    have k5 := KB1.out.at_ (j := 5) rfl
    clear hb
    go_wp2_with fail
    refine (C2.out _).mono ?_
    rintro e2 w2 ⟨rfl, hb⟩
    have HB2 := Lib.hid (below_trans HB1.out hb (Nat.le_refl _))
    have KB2 := Lib.hid (KB1.out.new hb)
    clear hb
    go_wp2_with fail
    refine (impl_IsDocument l A n c 0 w.heap.size _ (by omega) (HR0.out.below HB2.out (Nat.le_refl _)) hok).mono ?_
    rintro e3 w3 ⟨rfl, hb⟩
    rw [hdoc]
    have HB3 := Lib.hid (below_trans HB2.out hb (Nat.le_refl _))
    have KB3 := Lib.hid (KB2.out.new hb)
    clear hb
    go_wp2_with fail
    refine wp_region_held_drew (S := fun w' => BoxAt w' w.heap.size 157 #[.int .i64 1, .int .i64 a1, .int .i64 a2, .int .i64 a3, .int .i64 a4, .int .i64 a5] ∧ Below w.heap.size w w') (by kernel_rfl) ?_ (fun hHeld => ?_)
    · exact ⟨KB3.out.drw, HB3.out.drew⟩
    refine wpAnyH_take (i := 0) (oi := ⟨some 25, _, _, _, _, _⟩) (v := ?_) rfl (by kernel_rfl) (by kernel_rfl) (by kernel_rfl) (fun _ _ _ h => h) (Or.inl ⟨by kernel_rfl, ?_⟩) hHeld ?_
    rotate_left
    focus (intro W hS; have c0_0 := (hS.1).at_ (j := 0) rfl; have c0_1 := (hS.1).at_ (j := 1) rfl; have c0_2 := (hS.1).at_ (j := 2) rfl; have c0_3 := (hS.1).at_ (j := 3) rfl; have c0_4 := (hS.1).at_ (j := 4) rfl; have c0_5 := (hS.1).at_ (j := 5) rfl; clear hS; first | (go_simp; done) | (go_simp; with_reducible rfl))
    try simp only [Act.put, List.setIfInBounds_toArray, List.set_cons_zero, List.set_cons_succ]
    refine wpAnyH_take (i := 1) (oi := ⟨some 26, _, _, _, _, _⟩) (v := ?_) rfl (by kernel_rfl) (by kernel_rfl) (by kernel_rfl) (fun _ _ _ h => h) (Or.inl ⟨by kernel_rfl, ?_⟩) hHeld ?_
    rotate_left
    focus (intro W hS; have c0_0 := (hS.1).at_ (j := 0) rfl; have c0_1 := (hS.1).at_ (j := 1) rfl; have c0_2 := (hS.1).at_ (j := 2) rfl; have c0_3 := (hS.1).at_ (j := 3) rfl; have c0_4 := (hS.1).at_ (j := 4) rfl; have c0_5 := (hS.1).at_ (j := 5) rfl; clear hS; first | (go_simp; done) | (go_simp; with_reducible rfl))
    try simp only [Act.put, List.setIfInBounds_toArray, List.set_cons_zero, List.set_cons_succ]
    refine wpAnyH_take (i := 3) (oi := ⟨some 28, _, _, _, _, _⟩) (v := ?_) rfl (by kernel_rfl) (by kernel_rfl) (by kernel_rfl) (fun _ _ _ h => h) (Or.inl ⟨by kernel_rfl, ?_⟩) hHeld ?_
    rotate_left
    focus (intro W hS; have c0_0 := (hS.1).at_ (j := 0) rfl; have c0_1 := (hS.1).at_ (j := 1) rfl; have c0_2 := (hS.1).at_ (j := 2) rfl; have c0_3 := (hS.1).at_ (j := 3) rfl; have c0_4 := (hS.1).at_ (j := 4) rfl; have c0_5 := (hS.1).at_ (j := 5) rfl; clear hS; first | (go_simp; done) | (go_simp; with_reducible rfl))
    try simp only [Act.put, List.setIfInBounds_toArray, List.set_cons_zero, List.set_cons_succ]
    refine wpAnyH_take (i := 4) (oi := ⟨some 29, _, _, _, _, _⟩) (v := ?_) rfl (by kernel_rfl) (by kernel_rfl) (by kernel_rfl) (fun _ _ _ h => h) (Or.inl ⟨by kernel_rfl, ?_⟩) hHeld ?_
    rotate_left
    focus (intro W hS; have c0_0 := (hS.1).at_ (j := 0) rfl; have c0_1 := (hS.1).at_ (j := 1) rfl; have c0_2 := (hS.1).at_ (j := 2) rfl; have c0_3 := (hS.1).at_ (j := 3) rfl; have c0_4 := (hS.1).at_ (j := 4) rfl; have c0_5 := (hS.1).at_ (j := 5) rfl; clear hS; first | (go_simp; done) | (go_simp; with_reducible rfl))
    try simp only [Act.put, List.setIfInBounds_toArray, List.set_cons_zero, List.set_cons_succ]
    refine wpAnyH_take (i := 5) (oi := ⟨some 30, _, _, _, _, _⟩) (v := ?_) rfl (by kernel_rfl) (by kernel_rfl) (by kernel_rfl) (fun _ _ _ h => h) (Or.inl ⟨by kernel_rfl, ?_⟩) hHeld ?_
    rotate_left
    focus (intro W hS; have c0_0 := (hS.1).at_ (j := 0) rfl; have c0_1 := (hS.1).at_ (j := 1) rfl; have c0_2 := (hS.1).at_ (j := 2) rfl; have c0_3 := (hS.1).at_ (j := 3) rfl; have c0_4 := (hS.1).at_ (j := 4) rfl; have c0_5 := (hS.1).at_ (j := 5) rfl; clear hS; first | (go_simp; done) | (go_simp; with_reducible rfl))
    try simp only [Act.put, List.setIfInBounds_toArray, List.set_cons_zero, List.set_cons_succ]
    refine wpAnyH_ready (rs := [2]) (by kernel_rfl) (by simp) ?_
    refine AllReadyH.cons (o := ⟨some 27, _, _, _, _, _⟩) rfl (fun K hK => ?_) AllReadyH.nil
    go_simp
    refine Calls.mono (newPage_any l A n c 0 w.heap.size _ (by omega) (HR0.out.below hHeld.2 (Nat.le_refl _)) hok) ?_
    rintro e x1 ⟨B, rfl, hB, GM, hb1⟩
    refine hK.out _ _ ⟨hHeld.1.new hb1, below_trans hHeld.2 hb1 (Nat.le_refl _)⟩ (fun hHeld' => ?_)
    clear hK K hHeld hb1
    have hHeld := hHeld'
    clear hHeld'
    try simp only [Act.put, List.setIfInBounds_toArray, List.set_cons_zero, List.set_cons_succ]
    refine wpAnyH_ready (rs := [6]) (by kernel_rfl) (by simp) ?_
    refine AllReadyH.cons (o := ⟨some 31, _, _, _, _, _⟩) rfl (fun K hK => ?_) AllReadyH.nil
    go_simp
    refine Calls.mono (apply_none (CA.out B _ hHeld.2 GM) hq) ?_
    rintro e x2 ⟨rfl, hb1⟩
    replace GM := GM.new hb1
    refine hK.out _ _ ⟨hHeld.1.new hb1, below_trans hHeld.2 hb1 (Nat.le_refl _)⟩ (fun hHeld' => ?_)
    clear hK K hHeld hb1
    have hHeld := hHeld'
    clear hHeld'
    try simp only [Act.put, List.setIfInBounds_toArray, List.set_cons_zero, List.set_cons_succ]
    refine wpAnyH_take (i := 7) (oi := ⟨some 32, _, _, _, _, _⟩) (v := ?_) rfl (by kernel_rfl) (by kernel_rfl) (by kernel_rfl) (fun _ _ _ h => h) (Or.inl ⟨by kernel_rfl, ?_⟩) hHeld ?_
    rotate_left
    focus (intro W hS; have c0_0 := (hS.1).at_ (j := 0) rfl; have c0_1 := (hS.1).at_ (j := 1) rfl; have c0_2 := (hS.1).at_ (j := 2) rfl; have c0_3 := (hS.1).at_ (j := 3) rfl; have c0_4 := (hS.1).at_ (j := 4) rfl; have c0_5 := (hS.1).at_ (j := 5) rfl; clear hS; first | (go_simp; done) | (go_simp; with_reducible rfl))
    try simp only [Act.put, List.setIfInBounds_toArray, List.set_cons_zero, List.set_cons_succ]
    refine wpAnyH_take (i := 8) (oi := ⟨some 33, _, _, _, _, _⟩) (v := ?_) rfl (by kernel_rfl) (by kernel_rfl) (by kernel_rfl) (fun _ _ _ h => h) (Or.inl ⟨by kernel_rfl, ?_⟩) hHeld ?_
    rotate_left
    focus (intro W hS; have c0_0 := (hS.1).at_ (j := 0) rfl; have c0_1 := (hS.1).at_ (j := 1) rfl; have c0_2 := (hS.1).at_ (j := 2) rfl; have c0_3 := (hS.1).at_ (j := 3) rfl; have c0_4 := (hS.1).at_ (j := 4) rfl; have c0_5 := (hS.1).at_ (j := 5) rfl; clear hS; first | (go_simp; done) | (go_simp; with_reducible rfl))
    try simp only [Act.put, List.setIfInBounds_toArray, List.set_cons_zero, List.set_cons_succ]
    refine wpAnyH_take (i := 9) (oi := ⟨some 4, _, _, _, _, _⟩) (v := ?_) rfl (by kernel_rfl) (by kernel_rfl) (by kernel_rfl) (fun _ _ _ h => h) (Or.inl ⟨by kernel_rfl, ?_⟩) hHeld ?_
    rotate_left
    focus (intro W hS; have c0_0 := (hS.1).at_ (j := 0) rfl; have c0_1 := (hS.1).at_ (j := 1) rfl; have c0_2 := (hS.1).at_ (j := 2) rfl; have c0_3 := (hS.1).at_ (j := 3) rfl; have c0_4 := (hS.1).at_ (j := 4) rfl; have c0_5 := (hS.1).at_ (j := 5) rfl; clear hS; first | (go_simp; done) | (go_simp; with_reducible rfl))
    try simp only [Act.put, List.setIfInBounds_toArray, List.set_cons_zero, List.set_cons_succ]
    refine wpAnyH_take (i := 10) (oi := ⟨some 5, _, _, _, _, _⟩) (v := ?_) rfl (by kernel_rfl) (by kernel_rfl) (by kernel_rfl) (fun _ _ _ h => h) (Or.inl ⟨by kernel_rfl, ?_⟩) hHeld ?_
    rotate_left
    focus (intro W hS; have c0_0 := (hS.1).at_ (j := 0) rfl; have c0_1 := (hS.1).at_ (j := 1) rfl; have c0_2 := (hS.1).at_ (j := 2) rfl; have c0_3 := (hS.1).at_ (j := 3) rfl; have c0_4 := (hS.1).at_ (j := 4) rfl; have c0_5 := (hS.1).at_ (j := 5) rfl; clear hS; first | (go_simp; done) | (go_simp; with_reducible rfl))
    try simp only [Act.put, List.setIfInBounds_toArray, List.set_cons_zero, List.set_cons_succ]
    refine wpAnyH_done (by kernel_rfl) ?_ _
    go_wp2_with fail
    go_ret2
    exact gives_none hHeld.2
  | some m =>
    go_enter Tryz.func134, Tryz.ntmps134
    go_wp2_with fail
    refine (C8.out _).mono ?_
    rintro e1 w1 ⟨rfl, hb⟩
    skip
    have HB1 := Lib.hid (below_trans HB0.out hb (by simp))
    have KB1 := Lib.hid (KB0.out.new hb)
    have k0 := KB1.out.at_ (j := 0) rfl
    have k1 := KB1.out.at_ (j := 1) rfl
    have k2 := KB1.out.at_ (j := 2) rfl
    have k3 := KB1.out.at_ (j := 3) rfl
    have k4 := KB1.out.at_ (j := 4) rfl
    have k5 := KB1.out.at_ (j := 5) rfl
    clear hb
    go_wp2_with fail
    refine (C2.out _).mono ?_
    rintro e2 w2 ⟨rfl, hb⟩
    have HB2 := Lib.hid (below_trans HB1.out hb (Nat.le_refl _))
    have KB2 := Lib.hid (KB1.out.new hb)
    clear hb
    go_wp2_with fail
    refine (impl_IsDocument l A n c 0 w.heap.size _ (by omega) (HR0.out.below HB2.out (Nat.le_refl _)) hok).mono ?_
    rintro e3 w3 ⟨rfl, hb⟩
    rw [hdoc]
    have HB3 := Lib.hid (below_trans HB2.out hb (Nat.le_refl _))
    have KB3 := Lib.hid (KB2.out.new hb)
    clear hb
    go_wp2_with fail
    refine wp_region_held_drew (S := fun w' => BoxAt w' w.heap.size 157 #[.int .i64 1, .int .i64 a1, .int .i64 a2, .int .i64 a3, .int .i64 a4, .int .i64 a5] ∧ Below w.heap.size w w') (by kernel_rfl) ?_ (fun hHeld => ?_)
    · exact ⟨KB3.out.drw, HB3.out.drew⟩
    refine wpAnyH_take (i := 0) (oi := ⟨some 25, _, _, _, _, _⟩) (v := ?_) rfl (by kernel_rfl) (by kernel_rfl) (by kernel_rfl) (fun _ _ _ h => h) (Or.inl ⟨by kernel_rfl, ?_⟩) hHeld ?_
    rotate_left
    focus (intro W hS; have c0_0 := (hS.1).at_ (j := 0) rfl; have c0_1 := (hS.1).at_ (j := 1) rfl; have c0_2 := (hS.1).at_ (j := 2) rfl; have c0_3 := (hS.1).at_ (j := 3) rfl; have c0_4 := (hS.1).at_ (j := 4) rfl; have c0_5 := (hS.1).at_ (j := 5) rfl; clear hS; first | (go_simp; done) | (go_simp; with_reducible rfl))
    try simp only [Act.put, List.setIfInBounds_toArray, List.set_cons_zero, List.set_cons_succ]
    refine wpAnyH_take (i := 1) (oi := ⟨some 26, _, _, _, _, _⟩) (v := ?_) rfl (by kernel_rfl) (by kernel_rfl) (by kernel_rfl) (fun _ _ _ h => h) (Or.inl ⟨by kernel_rfl, ?_⟩) hHeld ?_
    rotate_left
    focus (intro W hS; have c0_0 := (hS.1).at_ (j := 0) rfl; have c0_1 := (hS.1).at_ (j := 1) rfl; have c0_2 := (hS.1).at_ (j := 2) rfl; have c0_3 := (hS.1).at_ (j := 3) rfl; have c0_4 := (hS.1).at_ (j := 4) rfl; have c0_5 := (hS.1).at_ (j := 5) rfl; clear hS; first | (go_simp; done) | (go_simp; with_reducible rfl))
    try simp only [Act.put, List.setIfInBounds_toArray, List.set_cons_zero, List.set_cons_succ]
    refine wpAnyH_take (i := 3) (oi := ⟨some 28, _, _, _, _, _⟩) (v := ?_) rfl (by kernel_rfl) (by kernel_rfl) (by kernel_rfl) (fun _ _ _ h => h) (Or.inl ⟨by kernel_rfl, ?_⟩) hHeld ?_
    rotate_left
    focus (intro W hS; have c0_0 := (hS.1).at_ (j := 0) rfl; have c0_1 := (hS.1).at_ (j := 1) rfl; have c0_2 := (hS.1).at_ (j := 2) rfl; have c0_3 := (hS.1).at_ (j := 3) rfl; have c0_4 := (hS.1).at_ (j := 4) rfl; have c0_5 := (hS.1).at_ (j := 5) rfl; clear hS; first | (go_simp; done) | (go_simp; with_reducible rfl))
    try simp only [Act.put, List.setIfInBounds_toArray, List.set_cons_zero, List.set_cons_succ]
    refine wpAnyH_take (i := 4) (oi := ⟨some 29, _, _, _, _, _⟩) (v := ?_) rfl (by kernel_rfl) (by kernel_rfl) (by kernel_rfl) (fun _ _ _ h => h) (Or.inl ⟨by kernel_rfl, ?_⟩) hHeld ?_
    rotate_left
    focus (intro W hS; have c0_0 := (hS.1).at_ (j := 0) rfl; have c0_1 := (hS.1).at_ (j := 1) rfl; have c0_2 := (hS.1).at_ (j := 2) rfl; have c0_3 := (hS.1).at_ (j := 3) rfl; have c0_4 := (hS.1).at_ (j := 4) rfl; have c0_5 := (hS.1).at_ (j := 5) rfl; clear hS; first | (go_simp; done) | (go_simp; with_reducible rfl))
    try simp only [Act.put, List.setIfInBounds_toArray, List.set_cons_zero, List.set_cons_succ]
    refine wpAnyH_take (i := 5) (oi := ⟨some 30, _, _, _, _, _⟩) (v := ?_) rfl (by kernel_rfl) (by kernel_rfl) (by kernel_rfl) (fun _ _ _ h => h) (Or.inl ⟨by kernel_rfl, ?_⟩) hHeld ?_
    rotate_left
    focus (intro W hS; have c0_0 := (hS.1).at_ (j := 0) rfl; have c0_1 := (hS.1).at_ (j := 1) rfl; have c0_2 := (hS.1).at_ (j := 2) rfl; have c0_3 := (hS.1).at_ (j := 3) rfl; have c0_4 := (hS.1).at_ (j := 4) rfl; have c0_5 := (hS.1).at_ (j := 5) rfl; clear hS; first | (go_simp; done) | (go_simp; with_reducible rfl))
    try simp only [Act.put, List.setIfInBounds_toArray, List.set_cons_zero, List.set_cons_succ]
    refine wpAnyH_ready (rs := [2]) (by kernel_rfl) (by simp) ?_
    refine AllReadyH.cons (o := ⟨some 27, _, _, _, _, _⟩) rfl (fun K hK => ?_) AllReadyH.nil
    go_simp
    refine Calls.mono (newPage_any l A n c 0 w.heap.size _ (by omega) (HR0.out.below hHeld.2 (Nat.le_refl _)) hok) ?_
    rintro e x1 ⟨B, rfl, hB, GM, hb1⟩
    refine hK.out _ _ ⟨hHeld.1.new hb1, below_trans hHeld.2 hb1 (Nat.le_refl _)⟩ (fun hHeld' => ?_)
    clear hK K hHeld hb1
    have hHeld := hHeld'
    clear hHeld'
    try simp only [Act.put, List.setIfInBounds_toArray, List.set_cons_zero, List.set_cons_succ]
    refine wpAnyH_ready (rs := [6]) (by kernel_rfl) (by simp) ?_
    refine AllReadyH.cons (o := ⟨some 31, _, _, _, _, _⟩) rfl (fun K hK => ?_) AllReadyH.nil
    go_simp
    refine Calls.mono (apply_some w.heap.size hHeld.2.size (CA.out B _ hHeld.2 GM) hq) ?_
    rintro e x2 ⟨A6, c6, rfl, G6, hb1⟩
    replace GM := GM.new hb1
    refine hK.out _ _ ⟨hHeld.1.new hb1, below_trans hHeld.2 hb1 (Nat.le_refl _)⟩ (fun hHeld' => ?_)
    clear hK K hHeld hb1
    have hHeld := hHeld'
    clear hHeld'
    try simp only [Act.put, List.setIfInBounds_toArray, List.set_cons_zero, List.set_cons_succ]
    refine wpAnyH_take (i := 7) (oi := ⟨some 32, _, _, _, _, _⟩) (v := ?_) rfl (by kernel_rfl) (by kernel_rfl) (by kernel_rfl) (fun _ _ _ h => h) (Or.inl ⟨by kernel_rfl, ?_⟩) hHeld ?_
    rotate_left
    focus (intro W hS; have c0_0 := (hS.1).at_ (j := 0) rfl; have c0_1 := (hS.1).at_ (j := 1) rfl; have c0_2 := (hS.1).at_ (j := 2) rfl; have c0_3 := (hS.1).at_ (j := 3) rfl; have c0_4 := (hS.1).at_ (j := 4) rfl; have c0_5 := (hS.1).at_ (j := 5) rfl; clear hS; first | (go_simp; done) | (go_simp; with_reducible rfl))
    try simp only [Act.put, List.setIfInBounds_toArray, List.set_cons_zero, List.set_cons_succ]
    refine wpAnyH_take (i := 8) (oi := ⟨some 33, _, _, _, _, _⟩) (v := ?_) rfl (by kernel_rfl) (by kernel_rfl) (by kernel_rfl) (fun _ _ _ h => h) (Or.inl ⟨by kernel_rfl, ?_⟩) hHeld ?_
    rotate_left
    focus (intro W hS; have c0_0 := (hS.1).at_ (j := 0) rfl; have c0_1 := (hS.1).at_ (j := 1) rfl; have c0_2 := (hS.1).at_ (j := 2) rfl; have c0_3 := (hS.1).at_ (j := 3) rfl; have c0_4 := (hS.1).at_ (j := 4) rfl; have c0_5 := (hS.1).at_ (j := 5) rfl; clear hS; first | (go_simp; done) | (go_simp; with_reducible rfl))
    try simp only [Act.put, List.setIfInBounds_toArray, List.set_cons_zero, List.set_cons_succ]
    refine wpAnyH_take (i := 9) (oi := ⟨some 4, _, _, _, _, _⟩) (v := ?_) rfl (by kernel_rfl) (by kernel_rfl) (by kernel_rfl) (fun _ _ _ h => h) (Or.inl ⟨by kernel_rfl, ?_⟩) hHeld ?_
    rotate_left
    focus (intro W hS; have c0_0 := (hS.1).at_ (j := 0) rfl; have c0_1 := (hS.1).at_ (j := 1) rfl; have c0_2 := (hS.1).at_ (j := 2) rfl; have c0_3 := (hS.1).at_ (j := 3) rfl; have c0_4 := (hS.1).at_ (j := 4) rfl; have c0_5 := (hS.1).at_ (j := 5) rfl; clear hS; first | (go_simp; done) | (go_simp; with_reducible rfl))
    try simp only [Act.put, List.setIfInBounds_toArray, List.set_cons_zero, List.set_cons_succ]
    refine wpAnyH_take (i := 10) (oi := ⟨some 5, _, _, _, _, _⟩) (v := ?_) rfl (by kernel_rfl) (by kernel_rfl) (by kernel_rfl) (fun _ _ _ h => h) (Or.inl ⟨by kernel_rfl, ?_⟩) hHeld ?_
    rotate_left
    focus (intro W hS; have c0_0 := (hS.1).at_ (j := 0) rfl; have c0_1 := (hS.1).at_ (j := 1) rfl; have c0_2 := (hS.1).at_ (j := 2) rfl; have c0_3 := (hS.1).at_ (j := 3) rfl; have c0_4 := (hS.1).at_ (j := 4) rfl; have c0_5 := (hS.1).at_ (j := 5) rfl; clear hS; first | (go_simp; done) | (go_simp; with_reducible rfl))
    try simp only [Act.put, List.setIfInBounds_toArray, List.set_cons_zero, List.set_cons_succ]
    refine wpAnyH_done (by kernel_rfl) ?_ _
    go_wp2_with fail
    go_ret2
    exact gives_some rfl G6 hHeld.2
set_option maxHeartbeats 16000000 in
theorem edited_drop (a1 a2 a3 a4 a5 : Int) (l : List TNode) (A : Option Addr) (n c lo hi : Nat) (w : World) (hn : n ≤ 1048576) (hr : Rd w lo hi 5 A n (cNode l)) (hok : Hid (cNodeOk l)) (he : Hid (TEdit.fit (⟨2, a1, a2, a3, a4, a5⟩ : TEdit))) (hdoc : mIsDoc l = true) (hed : mIsEdit (⟨2, a1, a2, a3, a4, a5⟩ : TEdit) = true) :
    Calls Tryz.prog 134 #[.slice A n c, .agg #[.int .i64 2, .int .i64 a1, .int .i64 a2, .int .i64 a3, .int .i64 a4, .int .i64 a5]] w (Gives (mDrop l a1) w) := by
  have HL := Lib.hid (rd_len TNode.len hr (by decide))
  have hn16 : n ≤ 16 := by
    have h := hdoc
    unfold mIsDoc at h
    rw [Bool.and_eq_true] at h
    have := inR_true.1 h.1
    have := HL.out
    omega
  have HR0 := Lib.hid (hr.old (by decide))
  have KB0 := Lib.hid (box_new w 157 #[.int .i64 2, .int .i64 a1, .int .i64 a2, .int .i64 a3, .int .i64 a4, .int .i64 a5])
  have HB0 := Lib.hid ((Below.refl w.heap.size w).alloc (Nat.le_refl _) (.cells #[.int .i64 2, .int .i64 a1, .int .i64 a2, .int .i64 a3, .int .i64 a4, .int .i64 a5] 157))
  have C8 : Hid (∀ W, Calls Tryz.prog 158 #[.agg #[.int .i64 2, .int .i64 a1, .int .i64 a2, .int .i64 a3, .int .i64 a4, .int .i64 a5]] W (Says (.tuple #[.iface 232 (.agg #[.int .i64 2, .int .i64 a1, .int .i64 a2, .int .i64 a3, .int .i64 a4, .int .i64 a5]), .bool true]) W)) := Lib.hid (fun W => changeOf_any (⟨2, a1, a2, a3, a4, a5⟩ : TEdit) W)
  have C2 : Hid (∀ W, Calls Tryz.prog 159 #[.agg #[.int .i64 2, .int .i64 a1, .int .i64 a2, .int .i64 a3, .int .i64 a4, .int .i64 a5]] W (Says (.bool true) W)) := Lib.hid (fun W => hed ▸ impl_IsEdit (⟨2, a1, a2, a3, a4, a5⟩ : TEdit) W he)
  have CA := Lib.hid (fun (B : Nat) (W : World) (h1 : Below w.heap.size w W) (h2 : MapAt W B n (idx l)) => drop_apply (⟨2, a1, a2, a3, a4, a5⟩ : TEdit) l A n c 0 w.heap.size B n W hn16 (HR0.out.below h1 (Nat.le_refl _)) hok he h2 hdoc)
  have na := ahA_drop
  have nm := mtA_drop
  clear hr he hed
  cases hq : mDrop l a1 with
  | none =>
    go_enter Tryz.func134, Tryz.ntmps134
    go_wp2_with fail
    refine (C8.out _).mono ?_
    rintro e1 w1 ⟨rfl, hb⟩
    skip
    have HB1 := Lib.hid (below_trans HB0.out hb (by simp))
    have KB1 := Lib.hid (KB0.out.new hb)
    have k0 := KB1.out.at_ (j := 0) rfl
    have k1 := KB1.out.at_ (j := 1) rfl
    have k2 := KB1.out.at_ (j := 2) rfl
    have k3 := KB1.out.at_ (j := 3) rfl
    have k4 := KB1.out.at_ (j := 4) rfl
    have k5 := KB1.out.at_ (j := 5) rfl
    clear hb
    go_wp2_with fail
    refine (C2.out _).mono ?_
    rintro e2 w2 ⟨rfl, hb⟩
    have HB2 := Lib.hid (below_trans HB1.out hb (Nat.le_refl _))
    have KB2 := Lib.hid (KB1.out.new hb)
    clear hb
    go_wp2_with fail
    refine (impl_IsDocument l A n c 0 w.heap.size _ (by omega) (HR0.out.below HB2.out (Nat.le_refl _)) hok).mono ?_
    rintro e3 w3 ⟨rfl, hb⟩
    rw [hdoc]
    have HB3 := Lib.hid (below_trans HB2.out hb (Nat.le_refl _))
    have KB3 := Lib.hid (KB2.out.new hb)
    clear hb
    go_wp2_with fail
    refine wp_region_held_drew (S := fun w' => BoxAt w' w.heap.size 157 #[.int .i64 2, .int .i64 a1, .int .i64 a2, .int .i64 a3, .int .i64 a4, .int .i64 a5] ∧ Below w.heap.size w w') (by kernel_rfl) ?_ (fun hHeld => ?_)
    · exact ⟨KB3.out.drw, HB3.out.drew⟩
    refine wpAnyH_take (i := 0) (oi := ⟨some 25, _, _, _, _, _⟩) (v := ?_) rfl (by kernel_rfl) (by kernel_rfl) (by kernel_rfl) (fun _ _ _ h => h) (Or.inl ⟨by kernel_rfl, ?_⟩) hHeld ?_
    rotate_left
    focus (intro W hS; have c0_0 := (hS.1).at_ (j := 0) rfl; have c0_1 := (hS.1).at_ (j := 1) rfl; have c0_2 := (hS.1).at_ (j := 2) rfl; have c0_3 := (hS.1).at_ (j := 3) rfl; have c0_4 := (hS.1).at_ (j := 4) rfl; have c0_5 := (hS.1).at_ (j := 5) rfl; clear hS; first | (go_simp; done) | (go_simp; with_reducible rfl))
    try simp only [Act.put, List.setIfInBounds_toArray, List.set_cons_zero, List.set_cons_succ]
    refine wpAnyH_take (i := 1) (oi := ⟨some 26, _, _, _, _, _⟩) (v := ?_) rfl (by kernel_rfl) (by kernel_rfl) (by kernel_rfl) (fun _ _ _ h => h) (Or.inl ⟨by kernel_rfl, ?_⟩) hHeld ?_
    rotate_left
    focus (intro W hS; have c0_0 := (hS.1).at_ (j := 0) rfl; have c0_1 := (hS.1).at_ (j := 1) rfl; have c0_2 := (hS.1).at_ (j := 2) rfl; have c0_3 := (hS.1).at_ (j := 3) rfl; have c0_4 := (hS.1).at_ (j := 4) rfl; have c0_5 := (hS.1).at_ (j := 5) rfl; clear hS; first | (go_simp; done) | (go_simp; with_reducible rfl))
    try simp only [Act.put, List.setIfInBounds_toArray, List.set_cons_zero, List.set_cons_succ]
    refine wpAnyH_take (i := 3) (oi := ⟨some 28, _, _, _, _, _⟩) (v := ?_) rfl (by kernel_rfl) (by kernel_rfl) (by kernel_rfl) (fun _ _ _ h => h) (Or.inl ⟨by kernel_rfl, ?_⟩) hHeld ?_
    rotate_left
    focus (intro W hS; have c0_0 := (hS.1).at_ (j := 0) rfl; have c0_1 := (hS.1).at_ (j := 1) rfl; have c0_2 := (hS.1).at_ (j := 2) rfl; have c0_3 := (hS.1).at_ (j := 3) rfl; have c0_4 := (hS.1).at_ (j := 4) rfl; have c0_5 := (hS.1).at_ (j := 5) rfl; clear hS; first | (go_simp; done) | (go_simp; with_reducible rfl))
    try simp only [Act.put, List.setIfInBounds_toArray, List.set_cons_zero, List.set_cons_succ]
    refine wpAnyH_take (i := 4) (oi := ⟨some 29, _, _, _, _, _⟩) (v := ?_) rfl (by kernel_rfl) (by kernel_rfl) (by kernel_rfl) (fun _ _ _ h => h) (Or.inl ⟨by kernel_rfl, ?_⟩) hHeld ?_
    rotate_left
    focus (intro W hS; have c0_0 := (hS.1).at_ (j := 0) rfl; have c0_1 := (hS.1).at_ (j := 1) rfl; have c0_2 := (hS.1).at_ (j := 2) rfl; have c0_3 := (hS.1).at_ (j := 3) rfl; have c0_4 := (hS.1).at_ (j := 4) rfl; have c0_5 := (hS.1).at_ (j := 5) rfl; clear hS; first | (go_simp; done) | (go_simp; with_reducible rfl))
    try simp only [Act.put, List.setIfInBounds_toArray, List.set_cons_zero, List.set_cons_succ]
    refine wpAnyH_take (i := 5) (oi := ⟨some 30, _, _, _, _, _⟩) (v := ?_) rfl (by kernel_rfl) (by kernel_rfl) (by kernel_rfl) (fun _ _ _ h => h) (Or.inl ⟨by kernel_rfl, ?_⟩) hHeld ?_
    rotate_left
    focus (intro W hS; have c0_0 := (hS.1).at_ (j := 0) rfl; have c0_1 := (hS.1).at_ (j := 1) rfl; have c0_2 := (hS.1).at_ (j := 2) rfl; have c0_3 := (hS.1).at_ (j := 3) rfl; have c0_4 := (hS.1).at_ (j := 4) rfl; have c0_5 := (hS.1).at_ (j := 5) rfl; clear hS; first | (go_simp; done) | (go_simp; with_reducible rfl))
    try simp only [Act.put, List.setIfInBounds_toArray, List.set_cons_zero, List.set_cons_succ]
    refine wpAnyH_ready (rs := [2]) (by kernel_rfl) (by simp) ?_
    refine AllReadyH.cons (o := ⟨some 27, _, _, _, _, _⟩) rfl (fun K hK => ?_) AllReadyH.nil
    go_simp
    refine Calls.mono (newPage_any l A n c 0 w.heap.size _ (by omega) (HR0.out.below hHeld.2 (Nat.le_refl _)) hok) ?_
    rintro e x1 ⟨B, rfl, hB, GM, hb1⟩
    refine hK.out _ _ ⟨hHeld.1.new hb1, below_trans hHeld.2 hb1 (Nat.le_refl _)⟩ (fun hHeld' => ?_)
    clear hK K hHeld hb1
    have hHeld := hHeld'
    clear hHeld'
    try simp only [Act.put, List.setIfInBounds_toArray, List.set_cons_zero, List.set_cons_succ]
    refine wpAnyH_ready (rs := [6]) (by kernel_rfl) (by simp) ?_
    refine AllReadyH.cons (o := ⟨some 31, _, _, _, _, _⟩) rfl (fun K hK => ?_) AllReadyH.nil
    go_simp
    refine Calls.mono (apply_none (CA.out B _ hHeld.2 GM) hq) ?_
    rintro e x2 ⟨rfl, hb1⟩
    replace GM := GM.new hb1
    refine hK.out _ _ ⟨hHeld.1.new hb1, below_trans hHeld.2 hb1 (Nat.le_refl _)⟩ (fun hHeld' => ?_)
    clear hK K hHeld hb1
    have hHeld := hHeld'
    clear hHeld'
    try simp only [Act.put, List.setIfInBounds_toArray, List.set_cons_zero, List.set_cons_succ]
    refine wpAnyH_take (i := 7) (oi := ⟨some 32, _, _, _, _, _⟩) (v := ?_) rfl (by kernel_rfl) (by kernel_rfl) (by kernel_rfl) (fun _ _ _ h => h) (Or.inl ⟨by kernel_rfl, ?_⟩) hHeld ?_
    rotate_left
    focus (intro W hS; have c0_0 := (hS.1).at_ (j := 0) rfl; have c0_1 := (hS.1).at_ (j := 1) rfl; have c0_2 := (hS.1).at_ (j := 2) rfl; have c0_3 := (hS.1).at_ (j := 3) rfl; have c0_4 := (hS.1).at_ (j := 4) rfl; have c0_5 := (hS.1).at_ (j := 5) rfl; clear hS; first | (go_simp; done) | (go_simp; with_reducible rfl))
    try simp only [Act.put, List.setIfInBounds_toArray, List.set_cons_zero, List.set_cons_succ]
    refine wpAnyH_take (i := 8) (oi := ⟨some 33, _, _, _, _, _⟩) (v := ?_) rfl (by kernel_rfl) (by kernel_rfl) (by kernel_rfl) (fun _ _ _ h => h) (Or.inl ⟨by kernel_rfl, ?_⟩) hHeld ?_
    rotate_left
    focus (intro W hS; have c0_0 := (hS.1).at_ (j := 0) rfl; have c0_1 := (hS.1).at_ (j := 1) rfl; have c0_2 := (hS.1).at_ (j := 2) rfl; have c0_3 := (hS.1).at_ (j := 3) rfl; have c0_4 := (hS.1).at_ (j := 4) rfl; have c0_5 := (hS.1).at_ (j := 5) rfl; clear hS; first | (go_simp; done) | (go_simp; with_reducible rfl))
    try simp only [Act.put, List.setIfInBounds_toArray, List.set_cons_zero, List.set_cons_succ]
    refine wpAnyH_take (i := 9) (oi := ⟨some 4, _, _, _, _, _⟩) (v := ?_) rfl (by kernel_rfl) (by kernel_rfl) (by kernel_rfl) (fun _ _ _ h => h) (Or.inl ⟨by kernel_rfl, ?_⟩) hHeld ?_
    rotate_left
    focus (intro W hS; have c0_0 := (hS.1).at_ (j := 0) rfl; have c0_1 := (hS.1).at_ (j := 1) rfl; have c0_2 := (hS.1).at_ (j := 2) rfl; have c0_3 := (hS.1).at_ (j := 3) rfl; have c0_4 := (hS.1).at_ (j := 4) rfl; have c0_5 := (hS.1).at_ (j := 5) rfl; clear hS; first | (go_simp; done) | (go_simp; with_reducible rfl))
    try simp only [Act.put, List.setIfInBounds_toArray, List.set_cons_zero, List.set_cons_succ]
    refine wpAnyH_take (i := 10) (oi := ⟨some 5, _, _, _, _, _⟩) (v := ?_) rfl (by kernel_rfl) (by kernel_rfl) (by kernel_rfl) (fun _ _ _ h => h) (Or.inl ⟨by kernel_rfl, ?_⟩) hHeld ?_
    rotate_left
    focus (intro W hS; have c0_0 := (hS.1).at_ (j := 0) rfl; have c0_1 := (hS.1).at_ (j := 1) rfl; have c0_2 := (hS.1).at_ (j := 2) rfl; have c0_3 := (hS.1).at_ (j := 3) rfl; have c0_4 := (hS.1).at_ (j := 4) rfl; have c0_5 := (hS.1).at_ (j := 5) rfl; clear hS; first | (go_simp; done) | (go_simp; with_reducible rfl))
    try simp only [Act.put, List.setIfInBounds_toArray, List.set_cons_zero, List.set_cons_succ]
    refine wpAnyH_done (by kernel_rfl) ?_ _
    go_wp2_with fail
    go_ret2
    exact gives_none hHeld.2
  | some m =>
    go_enter Tryz.func134, Tryz.ntmps134
    go_wp2_with fail
    refine (C8.out _).mono ?_
    rintro e1 w1 ⟨rfl, hb⟩
    skip
    have HB1 := Lib.hid (below_trans HB0.out hb (by simp))
    have KB1 := Lib.hid (KB0.out.new hb)
    have k0 := KB1.out.at_ (j := 0) rfl
    have k1 := KB1.out.at_ (j := 1) rfl
    have k2 := KB1.out.at_ (j := 2) rfl
    have k3 := KB1.out.at_ (j := 3) rfl
    have k4 := KB1.out.at_ (j := 4) rfl
    have k5 := KB1.out.at_ (j := 5) rfl
    clear hb
    go_wp2_with fail
    refine (C2.out _).mono ?_
    rintro e2 w2 ⟨rfl, hb⟩
    have HB2 := Lib.hid (below_trans HB1.out hb (Nat.le_refl _))
    have KB2 := Lib.hid (KB1.out.new hb)
    clear hb
    go_wp2_with fail
    refine (impl_IsDocument l A n c 0 w.heap.size _ (by omega) (HR0.out.below HB2.out (Nat.le_refl _)) hok).mono ?_
    rintro e3 w3 ⟨rfl, hb⟩
    rw [hdoc]
    have HB3 := Lib.hid (below_trans HB2.out hb (Nat.le_refl _))
    have KB3 := Lib.hid (KB2.out.new hb)
    clear hb
    go_wp2_with fail
    refine wp_region_held_drew (S := fun w' => BoxAt w' w.heap.size 157 #[.int .i64 2, .int .i64 a1, .int .i64 a2, .int .i64 a3, .int .i64 a4, .int .i64 a5] ∧ Below w.heap.size w w') (by kernel_rfl) ?_ (fun hHeld => ?_)
    · exact ⟨KB3.out.drw, HB3.out.drew⟩
    refine wpAnyH_take (i := 0) (oi := ⟨some 25, _, _, _, _, _⟩) (v := ?_) rfl (by kernel_rfl) (by kernel_rfl) (by kernel_rfl) (fun _ _ _ h => h) (Or.inl ⟨by kernel_rfl, ?_⟩) hHeld ?_
    rotate_left
    focus (intro W hS; have c0_0 := (hS.1).at_ (j := 0) rfl; have c0_1 := (hS.1).at_ (j := 1) rfl; have c0_2 := (hS.1).at_ (j := 2) rfl; have c0_3 := (hS.1).at_ (j := 3) rfl; have c0_4 := (hS.1).at_ (j := 4) rfl; have c0_5 := (hS.1).at_ (j := 5) rfl; clear hS; first | (go_simp; done) | (go_simp; with_reducible rfl))
    try simp only [Act.put, List.setIfInBounds_toArray, List.set_cons_zero, List.set_cons_succ]
    refine wpAnyH_take (i := 1) (oi := ⟨some 26, _, _, _, _, _⟩) (v := ?_) rfl (by kernel_rfl) (by kernel_rfl) (by kernel_rfl) (fun _ _ _ h => h) (Or.inl ⟨by kernel_rfl, ?_⟩) hHeld ?_
    rotate_left
    focus (intro W hS; have c0_0 := (hS.1).at_ (j := 0) rfl; have c0_1 := (hS.1).at_ (j := 1) rfl; have c0_2 := (hS.1).at_ (j := 2) rfl; have c0_3 := (hS.1).at_ (j := 3) rfl; have c0_4 := (hS.1).at_ (j := 4) rfl; have c0_5 := (hS.1).at_ (j := 5) rfl; clear hS; first | (go_simp; done) | (go_simp; with_reducible rfl))
    try simp only [Act.put, List.setIfInBounds_toArray, List.set_cons_zero, List.set_cons_succ]
    refine wpAnyH_take (i := 3) (oi := ⟨some 28, _, _, _, _, _⟩) (v := ?_) rfl (by kernel_rfl) (by kernel_rfl) (by kernel_rfl) (fun _ _ _ h => h) (Or.inl ⟨by kernel_rfl, ?_⟩) hHeld ?_
    rotate_left
    focus (intro W hS; have c0_0 := (hS.1).at_ (j := 0) rfl; have c0_1 := (hS.1).at_ (j := 1) rfl; have c0_2 := (hS.1).at_ (j := 2) rfl; have c0_3 := (hS.1).at_ (j := 3) rfl; have c0_4 := (hS.1).at_ (j := 4) rfl; have c0_5 := (hS.1).at_ (j := 5) rfl; clear hS; first | (go_simp; done) | (go_simp; with_reducible rfl))
    try simp only [Act.put, List.setIfInBounds_toArray, List.set_cons_zero, List.set_cons_succ]
    refine wpAnyH_take (i := 4) (oi := ⟨some 29, _, _, _, _, _⟩) (v := ?_) rfl (by kernel_rfl) (by kernel_rfl) (by kernel_rfl) (fun _ _ _ h => h) (Or.inl ⟨by kernel_rfl, ?_⟩) hHeld ?_
    rotate_left
    focus (intro W hS; have c0_0 := (hS.1).at_ (j := 0) rfl; have c0_1 := (hS.1).at_ (j := 1) rfl; have c0_2 := (hS.1).at_ (j := 2) rfl; have c0_3 := (hS.1).at_ (j := 3) rfl; have c0_4 := (hS.1).at_ (j := 4) rfl; have c0_5 := (hS.1).at_ (j := 5) rfl; clear hS; first | (go_simp; done) | (go_simp; with_reducible rfl))
    try simp only [Act.put, List.setIfInBounds_toArray, List.set_cons_zero, List.set_cons_succ]
    refine wpAnyH_take (i := 5) (oi := ⟨some 30, _, _, _, _, _⟩) (v := ?_) rfl (by kernel_rfl) (by kernel_rfl) (by kernel_rfl) (fun _ _ _ h => h) (Or.inl ⟨by kernel_rfl, ?_⟩) hHeld ?_
    rotate_left
    focus (intro W hS; have c0_0 := (hS.1).at_ (j := 0) rfl; have c0_1 := (hS.1).at_ (j := 1) rfl; have c0_2 := (hS.1).at_ (j := 2) rfl; have c0_3 := (hS.1).at_ (j := 3) rfl; have c0_4 := (hS.1).at_ (j := 4) rfl; have c0_5 := (hS.1).at_ (j := 5) rfl; clear hS; first | (go_simp; done) | (go_simp; with_reducible rfl))
    try simp only [Act.put, List.setIfInBounds_toArray, List.set_cons_zero, List.set_cons_succ]
    refine wpAnyH_ready (rs := [2]) (by kernel_rfl) (by simp) ?_
    refine AllReadyH.cons (o := ⟨some 27, _, _, _, _, _⟩) rfl (fun K hK => ?_) AllReadyH.nil
    go_simp
    refine Calls.mono (newPage_any l A n c 0 w.heap.size _ (by omega) (HR0.out.below hHeld.2 (Nat.le_refl _)) hok) ?_
    rintro e x1 ⟨B, rfl, hB, GM, hb1⟩
    refine hK.out _ _ ⟨hHeld.1.new hb1, below_trans hHeld.2 hb1 (Nat.le_refl _)⟩ (fun hHeld' => ?_)
    clear hK K hHeld hb1
    have hHeld := hHeld'
    clear hHeld'
    try simp only [Act.put, List.setIfInBounds_toArray, List.set_cons_zero, List.set_cons_succ]
    refine wpAnyH_ready (rs := [6]) (by kernel_rfl) (by simp) ?_
    refine AllReadyH.cons (o := ⟨some 31, _, _, _, _, _⟩) rfl (fun K hK => ?_) AllReadyH.nil
    go_simp
    refine Calls.mono (apply_some w.heap.size hHeld.2.size (CA.out B _ hHeld.2 GM) hq) ?_
    rintro e x2 ⟨A6, c6, rfl, G6, hb1⟩
    replace GM := GM.new hb1
    refine hK.out _ _ ⟨hHeld.1.new hb1, below_trans hHeld.2 hb1 (Nat.le_refl _)⟩ (fun hHeld' => ?_)
    clear hK K hHeld hb1
    have hHeld := hHeld'
    clear hHeld'
    try simp only [Act.put, List.setIfInBounds_toArray, List.set_cons_zero, List.set_cons_succ]
    refine wpAnyH_take (i := 7) (oi := ⟨some 32, _, _, _, _, _⟩) (v := ?_) rfl (by kernel_rfl) (by kernel_rfl) (by kernel_rfl) (fun _ _ _ h => h) (Or.inl ⟨by kernel_rfl, ?_⟩) hHeld ?_
    rotate_left
    focus (intro W hS; have c0_0 := (hS.1).at_ (j := 0) rfl; have c0_1 := (hS.1).at_ (j := 1) rfl; have c0_2 := (hS.1).at_ (j := 2) rfl; have c0_3 := (hS.1).at_ (j := 3) rfl; have c0_4 := (hS.1).at_ (j := 4) rfl; have c0_5 := (hS.1).at_ (j := 5) rfl; clear hS; first | (go_simp; done) | (go_simp; with_reducible rfl))
    try simp only [Act.put, List.setIfInBounds_toArray, List.set_cons_zero, List.set_cons_succ]
    refine wpAnyH_take (i := 8) (oi := ⟨some 33, _, _, _, _, _⟩) (v := ?_) rfl (by kernel_rfl) (by kernel_rfl) (by kernel_rfl) (fun _ _ _ h => h) (Or.inl ⟨by kernel_rfl, ?_⟩) hHeld ?_
    rotate_left
    focus (intro W hS; have c0_0 := (hS.1).at_ (j := 0) rfl; have c0_1 := (hS.1).at_ (j := 1) rfl; have c0_2 := (hS.1).at_ (j := 2) rfl; have c0_3 := (hS.1).at_ (j := 3) rfl; have c0_4 := (hS.1).at_ (j := 4) rfl; have c0_5 := (hS.1).at_ (j := 5) rfl; clear hS; first | (go_simp; done) | (go_simp; with_reducible rfl))
    try simp only [Act.put, List.setIfInBounds_toArray, List.set_cons_zero, List.set_cons_succ]
    refine wpAnyH_take (i := 9) (oi := ⟨some 4, _, _, _, _, _⟩) (v := ?_) rfl (by kernel_rfl) (by kernel_rfl) (by kernel_rfl) (fun _ _ _ h => h) (Or.inl ⟨by kernel_rfl, ?_⟩) hHeld ?_
    rotate_left
    focus (intro W hS; have c0_0 := (hS.1).at_ (j := 0) rfl; have c0_1 := (hS.1).at_ (j := 1) rfl; have c0_2 := (hS.1).at_ (j := 2) rfl; have c0_3 := (hS.1).at_ (j := 3) rfl; have c0_4 := (hS.1).at_ (j := 4) rfl; have c0_5 := (hS.1).at_ (j := 5) rfl; clear hS; first | (go_simp; done) | (go_simp; with_reducible rfl))
    try simp only [Act.put, List.setIfInBounds_toArray, List.set_cons_zero, List.set_cons_succ]
    refine wpAnyH_take (i := 10) (oi := ⟨some 5, _, _, _, _, _⟩) (v := ?_) rfl (by kernel_rfl) (by kernel_rfl) (by kernel_rfl) (fun _ _ _ h => h) (Or.inl ⟨by kernel_rfl, ?_⟩) hHeld ?_
    rotate_left
    focus (intro W hS; have c0_0 := (hS.1).at_ (j := 0) rfl; have c0_1 := (hS.1).at_ (j := 1) rfl; have c0_2 := (hS.1).at_ (j := 2) rfl; have c0_3 := (hS.1).at_ (j := 3) rfl; have c0_4 := (hS.1).at_ (j := 4) rfl; have c0_5 := (hS.1).at_ (j := 5) rfl; clear hS; first | (go_simp; done) | (go_simp; with_reducible rfl))
    try simp only [Act.put, List.setIfInBounds_toArray, List.set_cons_zero, List.set_cons_succ]
    refine wpAnyH_done (by kernel_rfl) ?_ _
    go_wp2_with fail
    go_ret2
    exact gives_some rfl G6 hHeld.2
set_option maxHeartbeats 16000000 in
theorem edited_text (a1 a2 a3 a4 a5 : Int) (l : List TNode) (A : Option Addr) (n c lo hi : Nat) (w : World) (hn : n ≤ 1048576) (hr : Rd w lo hi 5 A n (cNode l)) (hok : Hid (cNodeOk l)) (he : Hid (TEdit.fit (⟨3, a1, a2, a3, a4, a5⟩ : TEdit))) (hdoc : mIsDoc l = true) (hed : mIsEdit (⟨3, a1, a2, a3, a4, a5⟩ : TEdit) = true) :
    Calls Tryz.prog 134 #[.slice A n c, .agg #[.int .i64 3, .int .i64 a1, .int .i64 a2, .int .i64 a3, .int .i64 a4, .int .i64 a5]] w (Gives (mText l (⟨3, a1, a2, a3, a4, a5⟩ : TEdit)) w) := by
  have HL := Lib.hid (rd_len TNode.len hr (by decide))
  have hn16 : n ≤ 16 := by
    have h := hdoc
    unfold mIsDoc at h
    rw [Bool.and_eq_true] at h
    have := inR_true.1 h.1
    have := HL.out
    omega
  have HR0 := Lib.hid (hr.old (by decide))
  have KB0 := Lib.hid (box_new w 157 #[.int .i64 3, .int .i64 a1, .int .i64 a2, .int .i64 a3, .int .i64 a4, .int .i64 a5])
  have HB0 := Lib.hid ((Below.refl w.heap.size w).alloc (Nat.le_refl _) (.cells #[.int .i64 3, .int .i64 a1, .int .i64 a2, .int .i64 a3, .int .i64 a4, .int .i64 a5] 157))
  have C8 : Hid (∀ W, Calls Tryz.prog 158 #[.agg #[.int .i64 3, .int .i64 a1, .int .i64 a2, .int .i64 a3, .int .i64 a4, .int .i64 a5]] W (Says (.tuple #[.iface 233 (.agg #[.int .i64 3, .int .i64 a1, .int .i64 a2, .int .i64 a3, .int .i64 a4, .int .i64 a5]), .bool true]) W)) := Lib.hid (fun W => changeOf_any (⟨3, a1, a2, a3, a4, a5⟩ : TEdit) W)
  have C2 : Hid (∀ W, Calls Tryz.prog 159 #[.agg #[.int .i64 3, .int .i64 a1, .int .i64 a2, .int .i64 a3, .int .i64 a4, .int .i64 a5]] W (Says (.bool true) W)) := Lib.hid (fun W => hed ▸ impl_IsEdit (⟨3, a1, a2, a3, a4, a5⟩ : TEdit) W he)
  have CA := Lib.hid (fun (B : Nat) (W : World) (h1 : Below w.heap.size w W) (h2 : MapAt W B n (idx l)) => text_apply (⟨3, a1, a2, a3, a4, a5⟩ : TEdit) l A n c 0 w.heap.size B n W hn16 (HR0.out.below h1 (Nat.le_refl _)) hok he h2 hdoc)
  have na := ahA_text
  have nm := mtA_text
  clear hr he hed
  cases hq : mText l (⟨3, a1, a2, a3, a4, a5⟩ : TEdit) with
  | none =>
    go_enter Tryz.func134, Tryz.ntmps134
    go_wp2_with fail
    refine (C8.out _).mono ?_
    rintro e1 w1 ⟨rfl, hb⟩
    skip
    have HB1 := Lib.hid (below_trans HB0.out hb (by simp))
    have KB1 := Lib.hid (KB0.out.new hb)
    have k0 := KB1.out.at_ (j := 0) rfl
    have k1 := KB1.out.at_ (j := 1) rfl
    have k2 := KB1.out.at_ (j := 2) rfl
    have k3 := KB1.out.at_ (j := 3) rfl
    have k4 := KB1.out.at_ (j := 4) rfl
    have k5 := KB1.out.at_ (j := 5) rfl
    clear hb
    go_wp2_with fail
    refine (C2.out _).mono ?_
    rintro e2 w2 ⟨rfl, hb⟩
    have HB2 := Lib.hid (below_trans HB1.out hb (Nat.le_refl _))
    have KB2 := Lib.hid (KB1.out.new hb)
    clear hb
    go_wp2_with fail
    refine (impl_IsDocument l A n c 0 w.heap.size _ (by omega) (HR0.out.below HB2.out (Nat.le_refl _)) hok).mono ?_
    rintro e3 w3 ⟨rfl, hb⟩
    rw [hdoc]
    have HB3 := Lib.hid (below_trans HB2.out hb (Nat.le_refl _))
    have KB3 := Lib.hid (KB2.out.new hb)
    clear hb
    go_wp2_with fail
    refine wp_region_held_drew (S := fun w' => BoxAt w' w.heap.size 157 #[.int .i64 3, .int .i64 a1, .int .i64 a2, .int .i64 a3, .int .i64 a4, .int .i64 a5] ∧ Below w.heap.size w w') (by kernel_rfl) ?_ (fun hHeld => ?_)
    · exact ⟨KB3.out.drw, HB3.out.drew⟩
    refine wpAnyH_take (i := 0) (oi := ⟨some 25, _, _, _, _, _⟩) (v := ?_) rfl (by kernel_rfl) (by kernel_rfl) (by kernel_rfl) (fun _ _ _ h => h) (Or.inl ⟨by kernel_rfl, ?_⟩) hHeld ?_
    rotate_left
    focus (intro W hS; have c0_0 := (hS.1).at_ (j := 0) rfl; have c0_1 := (hS.1).at_ (j := 1) rfl; have c0_2 := (hS.1).at_ (j := 2) rfl; have c0_3 := (hS.1).at_ (j := 3) rfl; have c0_4 := (hS.1).at_ (j := 4) rfl; have c0_5 := (hS.1).at_ (j := 5) rfl; clear hS; first | (go_simp; done) | (go_simp; with_reducible rfl))
    try simp only [Act.put, List.setIfInBounds_toArray, List.set_cons_zero, List.set_cons_succ]
    refine wpAnyH_take (i := 1) (oi := ⟨some 26, _, _, _, _, _⟩) (v := ?_) rfl (by kernel_rfl) (by kernel_rfl) (by kernel_rfl) (fun _ _ _ h => h) (Or.inl ⟨by kernel_rfl, ?_⟩) hHeld ?_
    rotate_left
    focus (intro W hS; have c0_0 := (hS.1).at_ (j := 0) rfl; have c0_1 := (hS.1).at_ (j := 1) rfl; have c0_2 := (hS.1).at_ (j := 2) rfl; have c0_3 := (hS.1).at_ (j := 3) rfl; have c0_4 := (hS.1).at_ (j := 4) rfl; have c0_5 := (hS.1).at_ (j := 5) rfl; clear hS; first | (go_simp; done) | (go_simp; with_reducible rfl))
    try simp only [Act.put, List.setIfInBounds_toArray, List.set_cons_zero, List.set_cons_succ]
    refine wpAnyH_take (i := 3) (oi := ⟨some 28, _, _, _, _, _⟩) (v := ?_) rfl (by kernel_rfl) (by kernel_rfl) (by kernel_rfl) (fun _ _ _ h => h) (Or.inl ⟨by kernel_rfl, ?_⟩) hHeld ?_
    rotate_left
    focus (intro W hS; have c0_0 := (hS.1).at_ (j := 0) rfl; have c0_1 := (hS.1).at_ (j := 1) rfl; have c0_2 := (hS.1).at_ (j := 2) rfl; have c0_3 := (hS.1).at_ (j := 3) rfl; have c0_4 := (hS.1).at_ (j := 4) rfl; have c0_5 := (hS.1).at_ (j := 5) rfl; clear hS; first | (go_simp; done) | (go_simp; with_reducible rfl))
    try simp only [Act.put, List.setIfInBounds_toArray, List.set_cons_zero, List.set_cons_succ]
    refine wpAnyH_take (i := 4) (oi := ⟨some 29, _, _, _, _, _⟩) (v := ?_) rfl (by kernel_rfl) (by kernel_rfl) (by kernel_rfl) (fun _ _ _ h => h) (Or.inl ⟨by kernel_rfl, ?_⟩) hHeld ?_
    rotate_left
    focus (intro W hS; have c0_0 := (hS.1).at_ (j := 0) rfl; have c0_1 := (hS.1).at_ (j := 1) rfl; have c0_2 := (hS.1).at_ (j := 2) rfl; have c0_3 := (hS.1).at_ (j := 3) rfl; have c0_4 := (hS.1).at_ (j := 4) rfl; have c0_5 := (hS.1).at_ (j := 5) rfl; clear hS; first | (go_simp; done) | (go_simp; with_reducible rfl))
    try simp only [Act.put, List.setIfInBounds_toArray, List.set_cons_zero, List.set_cons_succ]
    refine wpAnyH_take (i := 5) (oi := ⟨some 30, _, _, _, _, _⟩) (v := ?_) rfl (by kernel_rfl) (by kernel_rfl) (by kernel_rfl) (fun _ _ _ h => h) (Or.inl ⟨by kernel_rfl, ?_⟩) hHeld ?_
    rotate_left
    focus (intro W hS; have c0_0 := (hS.1).at_ (j := 0) rfl; have c0_1 := (hS.1).at_ (j := 1) rfl; have c0_2 := (hS.1).at_ (j := 2) rfl; have c0_3 := (hS.1).at_ (j := 3) rfl; have c0_4 := (hS.1).at_ (j := 4) rfl; have c0_5 := (hS.1).at_ (j := 5) rfl; clear hS; first | (go_simp; done) | (go_simp; with_reducible rfl))
    try simp only [Act.put, List.setIfInBounds_toArray, List.set_cons_zero, List.set_cons_succ]
    refine wpAnyH_ready (rs := [2]) (by kernel_rfl) (by simp) ?_
    refine AllReadyH.cons (o := ⟨some 27, _, _, _, _, _⟩) rfl (fun K hK => ?_) AllReadyH.nil
    go_simp
    refine Calls.mono (newPage_any l A n c 0 w.heap.size _ (by omega) (HR0.out.below hHeld.2 (Nat.le_refl _)) hok) ?_
    rintro e x1 ⟨B, rfl, hB, GM, hb1⟩
    refine hK.out _ _ ⟨hHeld.1.new hb1, below_trans hHeld.2 hb1 (Nat.le_refl _)⟩ (fun hHeld' => ?_)
    clear hK K hHeld hb1
    have hHeld := hHeld'
    clear hHeld'
    try simp only [Act.put, List.setIfInBounds_toArray, List.set_cons_zero, List.set_cons_succ]
    refine wpAnyH_ready (rs := [6]) (by kernel_rfl) (by simp) ?_
    refine AllReadyH.cons (o := ⟨some 31, _, _, _, _, _⟩) rfl (fun K hK => ?_) AllReadyH.nil
    go_simp
    refine Calls.mono (apply_none (CA.out B _ hHeld.2 GM) hq) ?_
    rintro e x2 ⟨rfl, hb1⟩
    replace GM := GM.new hb1
    refine hK.out _ _ ⟨hHeld.1.new hb1, below_trans hHeld.2 hb1 (Nat.le_refl _)⟩ (fun hHeld' => ?_)
    clear hK K hHeld hb1
    have hHeld := hHeld'
    clear hHeld'
    try simp only [Act.put, List.setIfInBounds_toArray, List.set_cons_zero, List.set_cons_succ]
    refine wpAnyH_take (i := 7) (oi := ⟨some 32, _, _, _, _, _⟩) (v := ?_) rfl (by kernel_rfl) (by kernel_rfl) (by kernel_rfl) (fun _ _ _ h => h) (Or.inl ⟨by kernel_rfl, ?_⟩) hHeld ?_
    rotate_left
    focus (intro W hS; have c0_0 := (hS.1).at_ (j := 0) rfl; have c0_1 := (hS.1).at_ (j := 1) rfl; have c0_2 := (hS.1).at_ (j := 2) rfl; have c0_3 := (hS.1).at_ (j := 3) rfl; have c0_4 := (hS.1).at_ (j := 4) rfl; have c0_5 := (hS.1).at_ (j := 5) rfl; clear hS; first | (go_simp; done) | (go_simp; with_reducible rfl))
    try simp only [Act.put, List.setIfInBounds_toArray, List.set_cons_zero, List.set_cons_succ]
    refine wpAnyH_take (i := 8) (oi := ⟨some 33, _, _, _, _, _⟩) (v := ?_) rfl (by kernel_rfl) (by kernel_rfl) (by kernel_rfl) (fun _ _ _ h => h) (Or.inl ⟨by kernel_rfl, ?_⟩) hHeld ?_
    rotate_left
    focus (intro W hS; have c0_0 := (hS.1).at_ (j := 0) rfl; have c0_1 := (hS.1).at_ (j := 1) rfl; have c0_2 := (hS.1).at_ (j := 2) rfl; have c0_3 := (hS.1).at_ (j := 3) rfl; have c0_4 := (hS.1).at_ (j := 4) rfl; have c0_5 := (hS.1).at_ (j := 5) rfl; clear hS; first | (go_simp; done) | (go_simp; with_reducible rfl))
    try simp only [Act.put, List.setIfInBounds_toArray, List.set_cons_zero, List.set_cons_succ]
    refine wpAnyH_take (i := 9) (oi := ⟨some 4, _, _, _, _, _⟩) (v := ?_) rfl (by kernel_rfl) (by kernel_rfl) (by kernel_rfl) (fun _ _ _ h => h) (Or.inl ⟨by kernel_rfl, ?_⟩) hHeld ?_
    rotate_left
    focus (intro W hS; have c0_0 := (hS.1).at_ (j := 0) rfl; have c0_1 := (hS.1).at_ (j := 1) rfl; have c0_2 := (hS.1).at_ (j := 2) rfl; have c0_3 := (hS.1).at_ (j := 3) rfl; have c0_4 := (hS.1).at_ (j := 4) rfl; have c0_5 := (hS.1).at_ (j := 5) rfl; clear hS; first | (go_simp; done) | (go_simp; with_reducible rfl))
    try simp only [Act.put, List.setIfInBounds_toArray, List.set_cons_zero, List.set_cons_succ]
    refine wpAnyH_take (i := 10) (oi := ⟨some 5, _, _, _, _, _⟩) (v := ?_) rfl (by kernel_rfl) (by kernel_rfl) (by kernel_rfl) (fun _ _ _ h => h) (Or.inl ⟨by kernel_rfl, ?_⟩) hHeld ?_
    rotate_left
    focus (intro W hS; have c0_0 := (hS.1).at_ (j := 0) rfl; have c0_1 := (hS.1).at_ (j := 1) rfl; have c0_2 := (hS.1).at_ (j := 2) rfl; have c0_3 := (hS.1).at_ (j := 3) rfl; have c0_4 := (hS.1).at_ (j := 4) rfl; have c0_5 := (hS.1).at_ (j := 5) rfl; clear hS; first | (go_simp; done) | (go_simp; with_reducible rfl))
    try simp only [Act.put, List.setIfInBounds_toArray, List.set_cons_zero, List.set_cons_succ]
    refine wpAnyH_done (by kernel_rfl) ?_ _
    go_wp2_with fail
    go_ret2
    exact gives_none hHeld.2
  | some m =>
    go_enter Tryz.func134, Tryz.ntmps134
    go_wp2_with fail
    refine (C8.out _).mono ?_
    rintro e1 w1 ⟨rfl, hb⟩
    skip
    have HB1 := Lib.hid (below_trans HB0.out hb (by simp))
    have KB1 := Lib.hid (KB0.out.new hb)
    have k0 := KB1.out.at_ (j := 0) rfl
    have k1 := KB1.out.at_ (j := 1) rfl
    have k2 := KB1.out.at_ (j := 2) rfl
    have k3 := KB1.out.at_ (j := 3) rfl
    have k4 := KB1.out.at_ (j := 4) rfl
    have k5 := KB1.out.at_ (j := 5) rfl
    clear hb
    go_wp2_with fail
    refine (C2.out _).mono ?_
    rintro e2 w2 ⟨rfl, hb⟩
    have HB2 := Lib.hid (below_trans HB1.out hb (Nat.le_refl _))
    have KB2 := Lib.hid (KB1.out.new hb)
    clear hb
    go_wp2_with fail
    refine (impl_IsDocument l A n c 0 w.heap.size _ (by omega) (HR0.out.below HB2.out (Nat.le_refl _)) hok).mono ?_
    rintro e3 w3 ⟨rfl, hb⟩
    rw [hdoc]
    have HB3 := Lib.hid (below_trans HB2.out hb (Nat.le_refl _))
    have KB3 := Lib.hid (KB2.out.new hb)
    clear hb
    go_wp2_with fail
    refine wp_region_held_drew (S := fun w' => BoxAt w' w.heap.size 157 #[.int .i64 3, .int .i64 a1, .int .i64 a2, .int .i64 a3, .int .i64 a4, .int .i64 a5] ∧ Below w.heap.size w w') (by kernel_rfl) ?_ (fun hHeld => ?_)
    · exact ⟨KB3.out.drw, HB3.out.drew⟩
    refine wpAnyH_take (i := 0) (oi := ⟨some 25, _, _, _, _, _⟩) (v := ?_) rfl (by kernel_rfl) (by kernel_rfl) (by kernel_rfl) (fun _ _ _ h => h) (Or.inl ⟨by kernel_rfl, ?_⟩) hHeld ?_
    rotate_left
    focus (intro W hS; have c0_0 := (hS.1).at_ (j := 0) rfl; have c0_1 := (hS.1).at_ (j := 1) rfl; have c0_2 := (hS.1).at_ (j := 2) rfl; have c0_3 := (hS.1).at_ (j := 3) rfl; have c0_4 := (hS.1).at_ (j := 4) rfl; have c0_5 := (hS.1).at_ (j := 5) rfl; clear hS; first | (go_simp; done) | (go_simp; with_reducible rfl))
    try simp only [Act.put, List.setIfInBounds_toArray, List.set_cons_zero, List.set_cons_succ]
    refine wpAnyH_take (i := 1) (oi := ⟨some 26, _, _, _, _, _⟩) (v := ?_) rfl (by kernel_rfl) (by kernel_rfl) (by kernel_rfl) (fun _ _ _ h => h) (Or.inl ⟨by kernel_rfl, ?_⟩) hHeld ?_
    rotate_left
    focus (intro W hS; have c0_0 := (hS.1).at_ (j := 0) rfl; have c0_1 := (hS.1).at_ (j := 1) rfl; have c0_2 := (hS.1).at_ (j := 2) rfl; have c0_3 := (hS.1).at_ (j := 3) rfl; have c0_4 := (hS.1).at_ (j := 4) rfl; have c0_5 := (hS.1).at_ (j := 5) rfl; clear hS; first | (go_simp; done) | (go_simp; with_reducible rfl))
    try simp only [Act.put, List.setIfInBounds_toArray, List.set_cons_zero, List.set_cons_succ]
    refine wpAnyH_take (i := 3) (oi := ⟨some 28, _, _, _, _, _⟩) (v := ?_) rfl (by kernel_rfl) (by kernel_rfl) (by kernel_rfl) (fun _ _ _ h => h) (Or.inl ⟨by kernel_rfl, ?_⟩) hHeld ?_
    rotate_left
    focus (intro W hS; have c0_0 := (hS.1).at_ (j := 0) rfl; have c0_1 := (hS.1).at_ (j := 1) rfl; have c0_2 := (hS.1).at_ (j := 2) rfl; have c0_3 := (hS.1).at_ (j := 3) rfl; have c0_4 := (hS.1).at_ (j := 4) rfl; have c0_5 := (hS.1).at_ (j := 5) rfl; clear hS; first | (go_simp; done) | (go_simp; with_reducible rfl))
    try simp only [Act.put, List.setIfInBounds_toArray, List.set_cons_zero, List.set_cons_succ]
    refine wpAnyH_take (i := 4) (oi := ⟨some 29, _, _, _, _, _⟩) (v := ?_) rfl (by kernel_rfl) (by kernel_rfl) (by kernel_rfl) (fun _ _ _ h => h) (Or.inl ⟨by kernel_rfl, ?_⟩) hHeld ?_
    rotate_left
    focus (intro W hS; have c0_0 := (hS.1).at_ (j := 0) rfl; have c0_1 := (hS.1).at_ (j := 1) rfl; have c0_2 := (hS.1).at_ (j := 2) rfl; have c0_3 := (hS.1).at_ (j := 3) rfl; have c0_4 := (hS.1).at_ (j := 4) rfl; have c0_5 := (hS.1).at_ (j := 5) rfl; clear hS; first | (go_simp; done) | (go_simp; with_reducible rfl))
    try simp only [Act.put, List.setIfInBounds_toArray, List.set_cons_zero, List.set_cons_succ]
    refine wpAnyH_take (i := 5) (oi := ⟨some 30, _, _, _, _, _⟩) (v := ?_) rfl (by kernel_rfl) (by kernel_rfl) (by kernel_rfl) (fun _ _ _ h => h) (Or.inl ⟨by kernel_rfl, ?_⟩) hHeld ?_
    rotate_left
    focus (intro W hS; have c0_0 := (hS.1).at_ (j := 0) rfl; have c0_1 := (hS.1).at_ (j := 1) rfl; have c0_2 := (hS.1).at_ (j := 2) rfl; have c0_3 := (hS.1).at_ (j := 3) rfl; have c0_4 := (hS.1).at_ (j := 4) rfl; have c0_5 := (hS.1).at_ (j := 5) rfl; clear hS; first | (go_simp; done) | (go_simp; with_reducible rfl))
    try simp only [Act.put, List.setIfInBounds_toArray, List.set_cons_zero, List.set_cons_succ]
    refine wpAnyH_ready (rs := [2]) (by kernel_rfl) (by simp) ?_
    refine AllReadyH.cons (o := ⟨some 27, _, _, _, _, _⟩) rfl (fun K hK => ?_) AllReadyH.nil
    go_simp
    refine Calls.mono (newPage_any l A n c 0 w.heap.size _ (by omega) (HR0.out.below hHeld.2 (Nat.le_refl _)) hok) ?_
    rintro e x1 ⟨B, rfl, hB, GM, hb1⟩
    refine hK.out _ _ ⟨hHeld.1.new hb1, below_trans hHeld.2 hb1 (Nat.le_refl _)⟩ (fun hHeld' => ?_)
    clear hK K hHeld hb1
    have hHeld := hHeld'
    clear hHeld'
    try simp only [Act.put, List.setIfInBounds_toArray, List.set_cons_zero, List.set_cons_succ]
    refine wpAnyH_ready (rs := [6]) (by kernel_rfl) (by simp) ?_
    refine AllReadyH.cons (o := ⟨some 31, _, _, _, _, _⟩) rfl (fun K hK => ?_) AllReadyH.nil
    go_simp
    refine Calls.mono (apply_some w.heap.size hHeld.2.size (CA.out B _ hHeld.2 GM) hq) ?_
    rintro e x2 ⟨A6, c6, rfl, G6, hb1⟩
    replace GM := GM.new hb1
    refine hK.out _ _ ⟨hHeld.1.new hb1, below_trans hHeld.2 hb1 (Nat.le_refl _)⟩ (fun hHeld' => ?_)
    clear hK K hHeld hb1
    have hHeld := hHeld'
    clear hHeld'
    try simp only [Act.put, List.setIfInBounds_toArray, List.set_cons_zero, List.set_cons_succ]
    refine wpAnyH_take (i := 7) (oi := ⟨some 32, _, _, _, _, _⟩) (v := ?_) rfl (by kernel_rfl) (by kernel_rfl) (by kernel_rfl) (fun _ _ _ h => h) (Or.inl ⟨by kernel_rfl, ?_⟩) hHeld ?_
    rotate_left
    focus (intro W hS; have c0_0 := (hS.1).at_ (j := 0) rfl; have c0_1 := (hS.1).at_ (j := 1) rfl; have c0_2 := (hS.1).at_ (j := 2) rfl; have c0_3 := (hS.1).at_ (j := 3) rfl; have c0_4 := (hS.1).at_ (j := 4) rfl; have c0_5 := (hS.1).at_ (j := 5) rfl; clear hS; first | (go_simp; done) | (go_simp; with_reducible rfl))
    try simp only [Act.put, List.setIfInBounds_toArray, List.set_cons_zero, List.set_cons_succ]
    refine wpAnyH_take (i := 8) (oi := ⟨some 33, _, _, _, _, _⟩) (v := ?_) rfl (by kernel_rfl) (by kernel_rfl) (by kernel_rfl) (fun _ _ _ h => h) (Or.inl ⟨by kernel_rfl, ?_⟩) hHeld ?_
    rotate_left
    focus (intro W hS; have c0_0 := (hS.1).at_ (j := 0) rfl; have c0_1 := (hS.1).at_ (j := 1) rfl; have c0_2 := (hS.1).at_ (j := 2) rfl; have c0_3 := (hS.1).at_ (j := 3) rfl; have c0_4 := (hS.1).at_ (j := 4) rfl; have c0_5 := (hS.1).at_ (j := 5) rfl; clear hS; first | (go_simp; done) | (go_simp; with_reducible rfl))
    try simp only [Act.put, List.setIfInBounds_toArray, List.set_cons_zero, List.set_cons_succ]
    refine wpAnyH_take (i := 9) (oi := ⟨some 4, _, _, _, _, _⟩) (v := ?_) rfl (by kernel_rfl) (by kernel_rfl) (by kernel_rfl) (fun _ _ _ h => h) (Or.inl ⟨by kernel_rfl, ?_⟩) hHeld ?_
    rotate_left
    focus (intro W hS; have c0_0 := (hS.1).at_ (j := 0) rfl; have c0_1 := (hS.1).at_ (j := 1) rfl; have c0_2 := (hS.1).at_ (j := 2) rfl; have c0_3 := (hS.1).at_ (j := 3) rfl; have c0_4 := (hS.1).at_ (j := 4) rfl; have c0_5 := (hS.1).at_ (j := 5) rfl; clear hS; first | (go_simp; done) | (go_simp; with_reducible rfl))
    try simp only [Act.put, List.setIfInBounds_toArray, List.set_cons_zero, List.set_cons_succ]
    refine wpAnyH_take (i := 10) (oi := ⟨some 5, _, _, _, _, _⟩) (v := ?_) rfl (by kernel_rfl) (by kernel_rfl) (by kernel_rfl) (fun _ _ _ h => h) (Or.inl ⟨by kernel_rfl, ?_⟩) hHeld ?_
    rotate_left
    focus (intro W hS; have c0_0 := (hS.1).at_ (j := 0) rfl; have c0_1 := (hS.1).at_ (j := 1) rfl; have c0_2 := (hS.1).at_ (j := 2) rfl; have c0_3 := (hS.1).at_ (j := 3) rfl; have c0_4 := (hS.1).at_ (j := 4) rfl; have c0_5 := (hS.1).at_ (j := 5) rfl; clear hS; first | (go_simp; done) | (go_simp; with_reducible rfl))
    try simp only [Act.put, List.setIfInBounds_toArray, List.set_cons_zero, List.set_cons_succ]
    refine wpAnyH_done (by kernel_rfl) ?_ _
    go_wp2_with fail
    go_ret2
    exact gives_some rfl G6 hHeld.2
set_option maxHeartbeats 16000000 in
theorem edited_move (a1 a2 a3 a4 a5 : Int) (l : List TNode) (A : Option Addr) (n c lo hi : Nat) (w : World) (hn : n ≤ 1048576) (hr : Rd w lo hi 5 A n (cNode l)) (hok : Hid (cNodeOk l)) (he : Hid (TEdit.fit (⟨4, a1, a2, a3, a4, a5⟩ : TEdit))) (hdoc : mIsDoc l = true) (hed : mIsEdit (⟨4, a1, a2, a3, a4, a5⟩ : TEdit) = true) :
    Calls Tryz.prog 134 #[.slice A n c, .agg #[.int .i64 4, .int .i64 a1, .int .i64 a2, .int .i64 a3, .int .i64 a4, .int .i64 a5]] w (Gives (mMove l (⟨4, a1, a2, a3, a4, a5⟩ : TEdit)) w) := by
  have HL := Lib.hid (rd_len TNode.len hr (by decide))
  have hn16 : n ≤ 16 := by
    have h := hdoc
    unfold mIsDoc at h
    rw [Bool.and_eq_true] at h
    have := inR_true.1 h.1
    have := HL.out
    omega
  have HR0 := Lib.hid (hr.old (by decide))
  have KB0 := Lib.hid (box_new w 157 #[.int .i64 4, .int .i64 a1, .int .i64 a2, .int .i64 a3, .int .i64 a4, .int .i64 a5])
  have HB0 := Lib.hid ((Below.refl w.heap.size w).alloc (Nat.le_refl _) (.cells #[.int .i64 4, .int .i64 a1, .int .i64 a2, .int .i64 a3, .int .i64 a4, .int .i64 a5] 157))
  have C8 : Hid (∀ W, Calls Tryz.prog 158 #[.agg #[.int .i64 4, .int .i64 a1, .int .i64 a2, .int .i64 a3, .int .i64 a4, .int .i64 a5]] W (Says (.tuple #[.iface 234 (.agg #[.int .i64 4, .int .i64 a1, .int .i64 a2, .int .i64 a3, .int .i64 a4, .int .i64 a5]), .bool true]) W)) := Lib.hid (fun W => changeOf_any (⟨4, a1, a2, a3, a4, a5⟩ : TEdit) W)
  have C2 : Hid (∀ W, Calls Tryz.prog 159 #[.agg #[.int .i64 4, .int .i64 a1, .int .i64 a2, .int .i64 a3, .int .i64 a4, .int .i64 a5]] W (Says (.bool true) W)) := Lib.hid (fun W => hed ▸ impl_IsEdit (⟨4, a1, a2, a3, a4, a5⟩ : TEdit) W he)
  have CA := Lib.hid (fun (B : Nat) (W : World) (h1 : Below w.heap.size w W) (h2 : MapAt W B n (idx l)) => move_apply (⟨4, a1, a2, a3, a4, a5⟩ : TEdit) l A n c 0 w.heap.size B n W hn16 (HR0.out.below h1 (Nat.le_refl _)) hok he h2 hdoc)
  have na := ahA_move
  have nm := mtA_move
  clear hr he hed
  cases hq : mMove l (⟨4, a1, a2, a3, a4, a5⟩ : TEdit) with
  | none =>
    go_enter Tryz.func134, Tryz.ntmps134
    go_wp2_with fail
    refine (C8.out _).mono ?_
    rintro e1 w1 ⟨rfl, hb⟩
    skip
    have HB1 := Lib.hid (below_trans HB0.out hb (by simp))
    have KB1 := Lib.hid (KB0.out.new hb)
    have k0 := KB1.out.at_ (j := 0) rfl
    have k1 := KB1.out.at_ (j := 1) rfl
    have k2 := KB1.out.at_ (j := 2) rfl
    have k3 := KB1.out.at_ (j := 3) rfl
    have k4 := KB1.out.at_ (j := 4) rfl
    have k5 := KB1.out.at_ (j := 5) rfl
    clear hb
    go_wp2_with fail
    refine (C2.out _).mono ?_
    rintro e2 w2 ⟨rfl, hb⟩
    have HB2 := Lib.hid (below_trans HB1.out hb (Nat.le_refl _))
    have KB2 := Lib.hid (KB1.out.new hb)
    clear hb
    go_wp2_with fail
    refine (impl_IsDocument l A n c 0 w.heap.size _ (by omega) (HR0.out.below HB2.out (Nat.le_refl _)) hok).mono ?_
    rintro e3 w3 ⟨rfl, hb⟩
    rw [hdoc]
    have HB3 := Lib.hid (below_trans HB2.out hb (Nat.le_refl _))
    have KB3 := Lib.hid (KB2.out.new hb)
    clear hb
    go_wp2_with fail
    refine wp_region_held_drew (S := fun w' => BoxAt w' w.heap.size 157 #[.int .i64 4, .int .i64 a1, .int .i64 a2, .int .i64 a3, .int .i64 a4, .int .i64 a5] ∧ Below w.heap.size w w') (by kernel_rfl) ?_ (fun hHeld => ?_)
    · exact ⟨KB3.out.drw, HB3.out.drew⟩
    refine wpAnyH_take (i := 0) (oi := ⟨some 25, _, _, _, _, _⟩) (v := ?_) rfl (by kernel_rfl) (by kernel_rfl) (by kernel_rfl) (fun _ _ _ h => h) (Or.inl ⟨by kernel_rfl, ?_⟩) hHeld ?_
    rotate_left
    focus (intro W hS; have c0_0 := (hS.1).at_ (j := 0) rfl; have c0_1 := (hS.1).at_ (j := 1) rfl; have c0_2 := (hS.1).at_ (j := 2) rfl; have c0_3 := (hS.1).at_ (j := 3) rfl; have c0_4 := (hS.1).at_ (j := 4) rfl; have c0_5 := (hS.1).at_ (j := 5) rfl; clear hS; first | (go_simp; done) | (go_simp; with_reducible rfl))
    try simp only [Act.put, List.setIfInBounds_toArray, List.set_cons_zero, List.set_cons_succ]
    refine wpAnyH_take (i := 1) (oi := ⟨some 26, _, _, _, _, _⟩) (v := ?_) rfl (by kernel_rfl) (by kernel_rfl) (by kernel_rfl) (fun _ _ _ h => h) (Or.inl ⟨by kernel_rfl, ?_⟩) hHeld ?_
    rotate_left
    focus (intro W hS; have c0_0 := (hS.1).at_ (j := 0) rfl; have c0_1 := (hS.1).at_ (j := 1) rfl; have c0_2 := (hS.1).at_ (j := 2) rfl; have c0_3 := (hS.1).at_ (j := 3) rfl; have c0_4 := (hS.1).at_ (j := 4) rfl; have c0_5 := (hS.1).at_ (j := 5) rfl; clear hS; first | (go_simp; done) | (go_simp; with_reducible rfl))
    try simp only [Act.put, List.setIfInBounds_toArray, List.set_cons_zero, List.set_cons_succ]
    refine wpAnyH_take (i := 3) (oi := ⟨some 28, _, _, _, _, _⟩) (v := ?_) rfl (by kernel_rfl) (by kernel_rfl) (by kernel_rfl) (fun _ _ _ h => h) (Or.inl ⟨by kernel_rfl, ?_⟩) hHeld ?_
    rotate_left
    focus (intro W hS; have c0_0 := (hS.1).at_ (j := 0) rfl; have c0_1 := (hS.1).at_ (j := 1) rfl; have c0_2 := (hS.1).at_ (j := 2) rfl; have c0_3 := (hS.1).at_ (j := 3) rfl; have c0_4 := (hS.1).at_ (j := 4) rfl; have c0_5 := (hS.1).at_ (j := 5) rfl; clear hS; first | (go_simp; done) | (go_simp; with_reducible rfl))
    try simp only [Act.put, List.setIfInBounds_toArray, List.set_cons_zero, List.set_cons_succ]
    refine wpAnyH_take (i := 4) (oi := ⟨some 29, _, _, _, _, _⟩) (v := ?_) rfl (by kernel_rfl) (by kernel_rfl) (by kernel_rfl) (fun _ _ _ h => h) (Or.inl ⟨by kernel_rfl, ?_⟩) hHeld ?_
    rotate_left
    focus (intro W hS; have c0_0 := (hS.1).at_ (j := 0) rfl; have c0_1 := (hS.1).at_ (j := 1) rfl; have c0_2 := (hS.1).at_ (j := 2) rfl; have c0_3 := (hS.1).at_ (j := 3) rfl; have c0_4 := (hS.1).at_ (j := 4) rfl; have c0_5 := (hS.1).at_ (j := 5) rfl; clear hS; first | (go_simp; done) | (go_simp; with_reducible rfl))
    try simp only [Act.put, List.setIfInBounds_toArray, List.set_cons_zero, List.set_cons_succ]
    refine wpAnyH_take (i := 5) (oi := ⟨some 30, _, _, _, _, _⟩) (v := ?_) rfl (by kernel_rfl) (by kernel_rfl) (by kernel_rfl) (fun _ _ _ h => h) (Or.inl ⟨by kernel_rfl, ?_⟩) hHeld ?_
    rotate_left
    focus (intro W hS; have c0_0 := (hS.1).at_ (j := 0) rfl; have c0_1 := (hS.1).at_ (j := 1) rfl; have c0_2 := (hS.1).at_ (j := 2) rfl; have c0_3 := (hS.1).at_ (j := 3) rfl; have c0_4 := (hS.1).at_ (j := 4) rfl; have c0_5 := (hS.1).at_ (j := 5) rfl; clear hS; first | (go_simp; done) | (go_simp; with_reducible rfl))
    try simp only [Act.put, List.setIfInBounds_toArray, List.set_cons_zero, List.set_cons_succ]
    refine wpAnyH_ready (rs := [2]) (by kernel_rfl) (by simp) ?_
    refine AllReadyH.cons (o := ⟨some 27, _, _, _, _, _⟩) rfl (fun K hK => ?_) AllReadyH.nil
    go_simp
    refine Calls.mono (newPage_any l A n c 0 w.heap.size _ (by omega) (HR0.out.below hHeld.2 (Nat.le_refl _)) hok) ?_
    rintro e x1 ⟨B, rfl, hB, GM, hb1⟩
    refine hK.out _ _ ⟨hHeld.1.new hb1, below_trans hHeld.2 hb1 (Nat.le_refl _)⟩ (fun hHeld' => ?_)
    clear hK K hHeld hb1
    have hHeld := hHeld'
    clear hHeld'
    try simp only [Act.put, List.setIfInBounds_toArray, List.set_cons_zero, List.set_cons_succ]
    refine wpAnyH_ready (rs := [6]) (by kernel_rfl) (by simp) ?_
    refine AllReadyH.cons (o := ⟨some 31, _, _, _, _, _⟩) rfl (fun K hK => ?_) AllReadyH.nil
    go_simp
    refine Calls.mono (apply_none (CA.out B _ hHeld.2 GM) hq) ?_
    rintro e x2 ⟨rfl, hb1⟩
    replace GM := GM.new hb1
    refine hK.out _ _ ⟨hHeld.1.new hb1, below_trans hHeld.2 hb1 (Nat.le_refl _)⟩ (fun hHeld' => ?_)
    clear hK K hHeld hb1
    have hHeld := hHeld'
    clear hHeld'
    try simp only [Act.put, List.setIfInBounds_toArray, List.set_cons_zero, List.set_cons_succ]
    refine wpAnyH_take (i := 7) (oi := ⟨some 32, _, _, _, _, _⟩) (v := ?_) rfl (by kernel_rfl) (by kernel_rfl) (by kernel_rfl) (fun _ _ _ h => h) (Or.inl ⟨by kernel_rfl, ?_⟩) hHeld ?_
    rotate_left
    focus (intro W hS; have c0_0 := (hS.1).at_ (j := 0) rfl; have c0_1 := (hS.1).at_ (j := 1) rfl; have c0_2 := (hS.1).at_ (j := 2) rfl; have c0_3 := (hS.1).at_ (j := 3) rfl; have c0_4 := (hS.1).at_ (j := 4) rfl; have c0_5 := (hS.1).at_ (j := 5) rfl; clear hS; first | (go_simp; done) | (go_simp; with_reducible rfl))
    try simp only [Act.put, List.setIfInBounds_toArray, List.set_cons_zero, List.set_cons_succ]
    refine wpAnyH_take (i := 8) (oi := ⟨some 33, _, _, _, _, _⟩) (v := ?_) rfl (by kernel_rfl) (by kernel_rfl) (by kernel_rfl) (fun _ _ _ h => h) (Or.inl ⟨by kernel_rfl, ?_⟩) hHeld ?_
    rotate_left
    focus (intro W hS; have c0_0 := (hS.1).at_ (j := 0) rfl; have c0_1 := (hS.1).at_ (j := 1) rfl; have c0_2 := (hS.1).at_ (j := 2) rfl; have c0_3 := (hS.1).at_ (j := 3) rfl; have c0_4 := (hS.1).at_ (j := 4) rfl; have c0_5 := (hS.1).at_ (j := 5) rfl; clear hS; first | (go_simp; done) | (go_simp; with_reducible rfl))
    try simp only [Act.put, List.setIfInBounds_toArray, List.set_cons_zero, List.set_cons_succ]
    refine wpAnyH_take (i := 9) (oi := ⟨some 4, _, _, _, _, _⟩) (v := ?_) rfl (by kernel_rfl) (by kernel_rfl) (by kernel_rfl) (fun _ _ _ h => h) (Or.inl ⟨by kernel_rfl, ?_⟩) hHeld ?_
    rotate_left
    focus (intro W hS; have c0_0 := (hS.1).at_ (j := 0) rfl; have c0_1 := (hS.1).at_ (j := 1) rfl; have c0_2 := (hS.1).at_ (j := 2) rfl; have c0_3 := (hS.1).at_ (j := 3) rfl; have c0_4 := (hS.1).at_ (j := 4) rfl; have c0_5 := (hS.1).at_ (j := 5) rfl; clear hS; first | (go_simp; done) | (go_simp; with_reducible rfl))
    try simp only [Act.put, List.setIfInBounds_toArray, List.set_cons_zero, List.set_cons_succ]
    refine wpAnyH_take (i := 10) (oi := ⟨some 5, _, _, _, _, _⟩) (v := ?_) rfl (by kernel_rfl) (by kernel_rfl) (by kernel_rfl) (fun _ _ _ h => h) (Or.inl ⟨by kernel_rfl, ?_⟩) hHeld ?_
    rotate_left
    focus (intro W hS; have c0_0 := (hS.1).at_ (j := 0) rfl; have c0_1 := (hS.1).at_ (j := 1) rfl; have c0_2 := (hS.1).at_ (j := 2) rfl; have c0_3 := (hS.1).at_ (j := 3) rfl; have c0_4 := (hS.1).at_ (j := 4) rfl; have c0_5 := (hS.1).at_ (j := 5) rfl; clear hS; first | (go_simp; done) | (go_simp; with_reducible rfl))
    try simp only [Act.put, List.setIfInBounds_toArray, List.set_cons_zero, List.set_cons_succ]
    refine wpAnyH_done (by kernel_rfl) ?_ _
    go_wp2_with fail
    go_ret2
    exact gives_none hHeld.2
  | some m =>
    go_enter Tryz.func134, Tryz.ntmps134
    go_wp2_with fail
    refine (C8.out _).mono ?_
    rintro e1 w1 ⟨rfl, hb⟩
    skip
    have HB1 := Lib.hid (below_trans HB0.out hb (by simp))
    have KB1 := Lib.hid (KB0.out.new hb)
    have k0 := KB1.out.at_ (j := 0) rfl
    have k1 := KB1.out.at_ (j := 1) rfl
    have k2 := KB1.out.at_ (j := 2) rfl
    have k3 := KB1.out.at_ (j := 3) rfl
    have k4 := KB1.out.at_ (j := 4) rfl
    have k5 := KB1.out.at_ (j := 5) rfl
    clear hb
    go_wp2_with fail
    refine (C2.out _).mono ?_
    rintro e2 w2 ⟨rfl, hb⟩
    have HB2 := Lib.hid (below_trans HB1.out hb (Nat.le_refl _))
    have KB2 := Lib.hid (KB1.out.new hb)
    clear hb
    go_wp2_with fail
    refine (impl_IsDocument l A n c 0 w.heap.size _ (by omega) (HR0.out.below HB2.out (Nat.le_refl _)) hok).mono ?_
    rintro e3 w3 ⟨rfl, hb⟩
    rw [hdoc]
    have HB3 := Lib.hid (below_trans HB2.out hb (Nat.le_refl _))
    have KB3 := Lib.hid (KB2.out.new hb)
    clear hb
    go_wp2_with fail
    refine wp_region_held_drew (S := fun w' => BoxAt w' w.heap.size 157 #[.int .i64 4, .int .i64 a1, .int .i64 a2, .int .i64 a3, .int .i64 a4, .int .i64 a5] ∧ Below w.heap.size w w') (by kernel_rfl) ?_ (fun hHeld => ?_)
    · exact ⟨KB3.out.drw, HB3.out.drew⟩
    refine wpAnyH_take (i := 0) (oi := ⟨some 25, _, _, _, _, _⟩) (v := ?_) rfl (by kernel_rfl) (by kernel_rfl) (by kernel_rfl) (fun _ _ _ h => h) (Or.inl ⟨by kernel_rfl, ?_⟩) hHeld ?_
    rotate_left
    focus (intro W hS; have c0_0 := (hS.1).at_ (j := 0) rfl; have c0_1 := (hS.1).at_ (j := 1) rfl; have c0_2 := (hS.1).at_ (j := 2) rfl; have c0_3 := (hS.1).at_ (j := 3) rfl; have c0_4 := (hS.1).at_ (j := 4) rfl; have c0_5 := (hS.1).at_ (j := 5) rfl; clear hS; first | (go_simp; done) | (go_simp; with_reducible rfl))
    try simp only [Act.put, List.setIfInBounds_toArray, List.set_cons_zero, List.set_cons_succ]
    refine wpAnyH_take (i := 1) (oi := ⟨some 26, _, _, _, _, _⟩) (v := ?_) rfl (by kernel_rfl) (by kernel_rfl) (by kernel_rfl) (fun _ _ _ h => h) (Or.inl ⟨by kernel_rfl, ?_⟩) hHeld ?_
    rotate_left
    focus (intro W hS; have c0_0 := (hS.1).at_ (j := 0) rfl; have c0_1 := (hS.1).at_ (j := 1) rfl; have c0_2 := (hS.1).at_ (j := 2) rfl; have c0_3 := (hS.1).at_ (j := 3) rfl; have c0_4 := (hS.1).at_ (j := 4) rfl; have c0_5 := (hS.1).at_ (j := 5) rfl; clear hS; first | (go_simp; done) | (go_simp; with_reducible rfl))
    try simp only [Act.put, List.setIfInBounds_toArray, List.set_cons_zero, List.set_cons_succ]
    refine wpAnyH_take (i := 3) (oi := ⟨some 28, _, _, _, _, _⟩) (v := ?_) rfl (by kernel_rfl) (by kernel_rfl) (by kernel_rfl) (fun _ _ _ h => h) (Or.inl ⟨by kernel_rfl, ?_⟩) hHeld ?_
    rotate_left
    focus (intro W hS; have c0_0 := (hS.1).at_ (j := 0) rfl; have c0_1 := (hS.1).at_ (j := 1) rfl; have c0_2 := (hS.1).at_ (j := 2) rfl; have c0_3 := (hS.1).at_ (j := 3) rfl; have c0_4 := (hS.1).at_ (j := 4) rfl; have c0_5 := (hS.1).at_ (j := 5) rfl; clear hS; first | (go_simp; done) | (go_simp; with_reducible rfl))
    try simp only [Act.put, List.setIfInBounds_toArray, List.set_cons_zero, List.set_cons_succ]
    refine wpAnyH_take (i := 4) (oi := ⟨some 29, _, _, _, _, _⟩) (v := ?_) rfl (by kernel_rfl) (by kernel_rfl) (by kernel_rfl) (fun _ _ _ h => h) (Or.inl ⟨by kernel_rfl, ?_⟩) hHeld ?_
    rotate_left
    focus (intro W hS; have c0_0 := (hS.1).at_ (j := 0) rfl; have c0_1 := (hS.1).at_ (j := 1) rfl; have c0_2 := (hS.1).at_ (j := 2) rfl; have c0_3 := (hS.1).at_ (j := 3) rfl; have c0_4 := (hS.1).at_ (j := 4) rfl; have c0_5 := (hS.1).at_ (j := 5) rfl; clear hS; first | (go_simp; done) | (go_simp; with_reducible rfl))
    try simp only [Act.put, List.setIfInBounds_toArray, List.set_cons_zero, List.set_cons_succ]
    refine wpAnyH_take (i := 5) (oi := ⟨some 30, _, _, _, _, _⟩) (v := ?_) rfl (by kernel_rfl) (by kernel_rfl) (by kernel_rfl) (fun _ _ _ h => h) (Or.inl ⟨by kernel_rfl, ?_⟩) hHeld ?_
    rotate_left
    focus (intro W hS; have c0_0 := (hS.1).at_ (j := 0) rfl; have c0_1 := (hS.1).at_ (j := 1) rfl; have c0_2 := (hS.1).at_ (j := 2) rfl; have c0_3 := (hS.1).at_ (j := 3) rfl; have c0_4 := (hS.1).at_ (j := 4) rfl; have c0_5 := (hS.1).at_ (j := 5) rfl; clear hS; first | (go_simp; done) | (go_simp; with_reducible rfl))
    try simp only [Act.put, List.setIfInBounds_toArray, List.set_cons_zero, List.set_cons_succ]
    refine wpAnyH_ready (rs := [2]) (by kernel_rfl) (by simp) ?_
    refine AllReadyH.cons (o := ⟨some 27, _, _, _, _, _⟩) rfl (fun K hK => ?_) AllReadyH.nil
    go_simp
    refine Calls.mono (newPage_any l A n c 0 w.heap.size _ (by omega) (HR0.out.below hHeld.2 (Nat.le_refl _)) hok) ?_
    rintro e x1 ⟨B, rfl, hB, GM, hb1⟩
    refine hK.out _ _ ⟨hHeld.1.new hb1, below_trans hHeld.2 hb1 (Nat.le_refl _)⟩ (fun hHeld' => ?_)
    clear hK K hHeld hb1
    have hHeld := hHeld'
    clear hHeld'
    try simp only [Act.put, List.setIfInBounds_toArray, List.set_cons_zero, List.set_cons_succ]
    refine wpAnyH_ready (rs := [6]) (by kernel_rfl) (by simp) ?_
    refine AllReadyH.cons (o := ⟨some 31, _, _, _, _, _⟩) rfl (fun K hK => ?_) AllReadyH.nil
    go_simp
    refine Calls.mono (apply_some w.heap.size hHeld.2.size (CA.out B _ hHeld.2 GM) hq) ?_
    rintro e x2 ⟨A6, c6, rfl, G6, hb1⟩
    replace GM := GM.new hb1
    refine hK.out _ _ ⟨hHeld.1.new hb1, below_trans hHeld.2 hb1 (Nat.le_refl _)⟩ (fun hHeld' => ?_)
    clear hK K hHeld hb1
    have hHeld := hHeld'
    clear hHeld'
    try simp only [Act.put, List.setIfInBounds_toArray, List.set_cons_zero, List.set_cons_succ]
    refine wpAnyH_take (i := 7) (oi := ⟨some 32, _, _, _, _, _⟩) (v := ?_) rfl (by kernel_rfl) (by kernel_rfl) (by kernel_rfl) (fun _ _ _ h => h) (Or.inl ⟨by kernel_rfl, ?_⟩) hHeld ?_
    rotate_left
    focus (intro W hS; have c0_0 := (hS.1).at_ (j := 0) rfl; have c0_1 := (hS.1).at_ (j := 1) rfl; have c0_2 := (hS.1).at_ (j := 2) rfl; have c0_3 := (hS.1).at_ (j := 3) rfl; have c0_4 := (hS.1).at_ (j := 4) rfl; have c0_5 := (hS.1).at_ (j := 5) rfl; clear hS; first | (go_simp; done) | (go_simp; with_reducible rfl))
    try simp only [Act.put, List.setIfInBounds_toArray, List.set_cons_zero, List.set_cons_succ]
    refine wpAnyH_take (i := 8) (oi := ⟨some 33, _, _, _, _, _⟩) (v := ?_) rfl (by kernel_rfl) (by kernel_rfl) (by kernel_rfl) (fun _ _ _ h => h) (Or.inl ⟨by kernel_rfl, ?_⟩) hHeld ?_
    rotate_left
    focus (intro W hS; have c0_0 := (hS.1).at_ (j := 0) rfl; have c0_1 := (hS.1).at_ (j := 1) rfl; have c0_2 := (hS.1).at_ (j := 2) rfl; have c0_3 := (hS.1).at_ (j := 3) rfl; have c0_4 := (hS.1).at_ (j := 4) rfl; have c0_5 := (hS.1).at_ (j := 5) rfl; clear hS; first | (go_simp; done) | (go_simp; with_reducible rfl))
    try simp only [Act.put, List.setIfInBounds_toArray, List.set_cons_zero, List.set_cons_succ]
    refine wpAnyH_take (i := 9) (oi := ⟨some 4, _, _, _, _, _⟩) (v := ?_) rfl (by kernel_rfl) (by kernel_rfl) (by kernel_rfl) (fun _ _ _ h => h) (Or.inl ⟨by kernel_rfl, ?_⟩) hHeld ?_
    rotate_left
    focus (intro W hS; have c0_0 := (hS.1).at_ (j := 0) rfl; have c0_1 := (hS.1).at_ (j := 1) rfl; have c0_2 := (hS.1).at_ (j := 2) rfl; have c0_3 := (hS.1).at_ (j := 3) rfl; have c0_4 := (hS.1).at_ (j := 4) rfl; have c0_5 := (hS.1).at_ (j := 5) rfl; clear hS; first | (go_simp; done) | (go_simp; with_reducible rfl))
    try simp only [Act.put, List.setIfInBounds_toArray, List.set_cons_zero, List.set_cons_succ]
    refine wpAnyH_take (i := 10) (oi := ⟨some 5, _, _, _, _, _⟩) (v := ?_) rfl (by kernel_rfl) (by kernel_rfl) (by kernel_rfl) (fun _ _ _ h => h) (Or.inl ⟨by kernel_rfl, ?_⟩) hHeld ?_
    rotate_left
    focus (intro W hS; have c0_0 := (hS.1).at_ (j := 0) rfl; have c0_1 := (hS.1).at_ (j := 1) rfl; have c0_2 := (hS.1).at_ (j := 2) rfl; have c0_3 := (hS.1).at_ (j := 3) rfl; have c0_4 := (hS.1).at_ (j := 4) rfl; have c0_5 := (hS.1).at_ (j := 5) rfl; clear hS; first | (go_simp; done) | (go_simp; with_reducible rfl))
    try simp only [Act.put, List.setIfInBounds_toArray, List.set_cons_zero, List.set_cons_succ]
    refine wpAnyH_done (by kernel_rfl) ?_ _
    go_wp2_with fail
    go_ret2
    exact gives_some rfl G6 hHeld.2
theorem impl_edited (e : TEdit) (l : List TNode) (A : Option Addr) (n c lo hi : Nat) (w : World) (hn : n ≤ 1048576) (hr : Rd w lo hi 5 A n (cNode l)) (hok : Hid (cNodeOk l)) :
    Calls Tryz.prog 134 #[.slice A n c, .agg #[.int .i64 e.f0, .int .i64 e.f1, .int .i64 e.f2, .int .i64 e.f3, .int .i64 e.f4, .int .i64 e.f5]] w (Gives (mEdited l e) w) := by
  unfold mEdited
  by_cases h : (mIsDoc l && mIsEdit e) = true
  · rw [if_pos h]
    rw [Bool.and_eq_true] at h
    have he := Lib.hid (isEdit_fit h.2)
    obtain ⟨k, a1, a2, a3, a4, a5⟩ := e
    have hk : k = 1 ∨ k = 2 ∨ k = 3 ∨ k = 4 := by
      have h2 := h.2
      unfold mIsEdit at h2
      simp only [Bool.and_eq_true] at h2
      have := inR_true.1 h2.1.1.1.1.1
      omega
    unfold mChange
    rcases hk with rfl | rfl | rfl | rfl
    · exact edited_add a1 a2 a3 a4 a5 l A n c lo hi w hn hr hok he h.1 h.2
    · exact edited_drop a1 a2 a3 a4 a5 l A n c lo hi w hn hr hok he h.1 h.2
    · exact edited_text a1 a2 a3 a4 a5 l A n c lo hi w hn hr hok he h.1 h.2
    · exact edited_move a1 a2 a3 a4 a5 l A n c lo hi w hn hr hok he h.1 h.2
  · rw [if_neg h]
    refine (edited_no e l A n c lo hi w hn hr hok (by simpa using h)).mono ?_
    rintro e' w' ⟨rfl, hb⟩
    exact gives_none hb
/-- What ApplyEdit answers. -/
def MakesA (l : List TNode) (e : TEdit) (w : World) (r : Ending) (w' : World) : Prop :=
  ∃ A c, r = .returned (.tuple #[.slice A (mApply l e).length c, .bool (mEdited l e).isSome]) ∧ Fr w' w.heap.size w'.heap.size 70 5 A (mApply l e).length c (cNode (mApply l e)) ∧ Below w.heap.size w w'
end Go.Proofs.YtjgcgipglmhgeaaGreat
namespace Go.Proofs.YtjgcgipglmhgeaaGreat
open Go Go.ChangeShapes Go.WideShapes Go.ChangeAt Go.RowKit Go.Lib
set_option linter.unusedVariables false
set_option linter.unusedSimpArgs false
set_option maxRecDepth 100000
theorem infoEdit : (Tryz.prog.info? 157).map (fun i => (i.zero, i.size, i.bytes)) = some (some (.agg #[.int .i64 0, .int .i64 0, .int .i64 0, .int .i64 0, .int .i64 0, .int .i64 0]), 6, 48) := by kernel_rfl
theorem onesEdit (x : TEdit) : ∀ u ∈ (#[.int .i64 x.f0, .int .i64 x.f1, .int .i64 x.f2, .int .i64 x.f3, .int .i64 x.f4, .int .i64 x.f5] : Array Value).toList, u.oneCell' = true := by
  intro u hu
  simp only [List.mem_cons, List.not_mem_nil, or_false] at hu
  rcases hu with rfl | rfl | rfl | rfl | rfl | rfl <;> rfl
theorem own_lowb {w : World} {b0 b1 n size : Nat} {e : TypeId} {v : Value} {xs : List Value} (h : w.ownsRow b1 e size v n xs) (hb : b0 ≤ b1) : w.ownsRow b0 e size v n xs :=
  ⟨h.1, h.2.imp id (fun ⟨g, cap, cur, hv, hg, r⟩ => ⟨g, cap, cur, hv, Nat.le_trans hb hg, r⟩)⟩
theorem grown_of_below {A B : World} (hb : Below A.heap.size A B) : A.grownBy B none := ⟨hb.os, hb.tape, hb.output, hb.size, fun k hk _ => hb.block k hk⟩
theorem lit_cells (W : World) (x : TEdit) : ∀ (j : Nat) u, ([.int .i64 x.f0, .int .i64 x.f1, .int .i64 x.f2, .int .i64 x.f3, .int .i64 x.f4, .int .i64 x.f5] : List Value)[j]? = some u → (W.alloc (.cells #[.int .i64 x.f0, .int .i64 x.f1, .int .i64 x.f2, .int .i64 x.f3, .int .i64 x.f4, .int .i64 x.f5] 157)).cell? ((⟨W.heap.size, 0, none⟩ : Addr).add j) = some u := by
  intro j u hu
  have h := (box_new W 157 #[.int .i64 x.f0, .int .i64 x.f1, .int .i64 x.f2, .int .i64 x.f3, .int .i64 x.f4, .int .i64 x.f5]).at_ (j := j) (u := u) (by simpa using hu)
  have e : (⟨W.heap.size, 0, none⟩ : Addr).add j = ⟨W.heap.size, j, none⟩ := by
    rcases Nat.eq_zero_or_pos j with rfl | hj
    · simp [Addr.add]
    · simp [Addr.add]; omega
  rw [e]
  exact h
theorem box_far_row {A B : World} {g : Nat} {t : TypeId} {cs : Array Value} {row : Option Nat} (h : BoxAt A g t cs) (hg : A.grownBy B row) (hr : ∀ r, row = some r → ∃ o : Obj, A.heap[r]? = some o ∧ o.isCells = false) : BoxAt B g t cs :=
  (hg.block g h.lt (fun e => by
    obtain ⟨o, ho, hc⟩ := hr g e.symm
    rw [show A.heap[g]? = _ from h] at ho
    cases ho
    cases hc)).trans h
end Go.Proofs.YtjgcgipglmhgeaaGreat
namespace Go.Proofs.YtjgcgipglmhgeaaGreat
open Go Go.ChangeShapes Go.WideShapes Go.ChangeAt Go.RowKit Go.Lib Go.Shelf
set_option linter.unusedVariables false
set_option linter.unusedSimpArgs false
set_option maxRecDepth 100000
attribute [local go_sem] Oper.semAt_some
set_option maxHeartbeats 8000000 in
theorem ev_Values (m : Nat) (hm : 1 ≤ m) (l n₀ : Nat) (xs : List TEdit) (A : Option Addr) (n c lo hi Bl : Nat) (J Jx : List TEdit → World → Prop) (w : World) (hJ : AbidesFrom w.heap.size J)
    (hY : ∀ pre x W1, J pre W1 → pre.length < n → YieldAt Fence.wide (m - 1) Tryz.prog l #[.agg #[.int .i64 x.f0, .int .i64 x.f1, .int .i64 x.f2, .int .i64 x.f3, .int .i64 x.f4, .int .i64 x.f5]] W1 fun e W' => (e = .returned (.bool true) ∧ J (pre ++ [x]) W' ∧ Below n₀ W1 W') ∨ (e = .returned (.bool false) ∧ Jx (pre ++ [x]) W'))
    (kl : BoxAt w Bl 58 #[.slice A n c]) (hr : Rd w lo hi 6 A n (cEdit xs)) (hhi : hi ≤ n₀) (hl : Bl < n₀) (hn : n ≤ 1048576) (hn₀ : n₀ ≤ w.heap.size) (h0 : J [] w) :
    CallsIn Fence.wide m Tryz.prog 135 #[.func (.yield l) #[] #[], .pointer (some ⟨Bl, 0, none⟩)] w fun e W' => (∃ v, e = .returned v) ∧
      ((∃ ys, ys = xs ∧ J ys W') ∨ (∃ pre, True ∧ Jx pre W')) := by
  have HL := Lib.hid (rd_len TEdit.len hr (by decide))
  have HR := Lib.hid hr
  have HY := Lib.hid hY
  have HJ := Lib.hid hJ
  have e0 : w.cell? ⟨Bl, 0, none⟩ = some (.slice A n c) := kl.at_ rfl
  clear hr hY hJ kl
  refine callsIn_of_wp Tryz.func135 rfl trivial ?_ rfl
  simp only [Tryz.ntmps135, List.size_toArray, List.length_cons, List.length_nil, Nat.reduceAdd, Nat.reduceSub, Array.replicate_succ, Array.replicate_zero, List.push_toArray, List.append_toArray, List.nil_append, List.cons_append]
  gi_wp2
  gi_loopw [7] (fun i wr => ∃ k : Nat, k ≤ n ∧ i = .int .i64 k ∧ Hid (J (xs.take k) wr) ∧ Hid (Below n₀ w wr)) (fun i _ => n - (intOf i).toNat)
  case atStart => exact ⟨0, Nat.zero_le _, rfl, Lib.hid h0, Lib.hid (Below.refl _ _)⟩
  case round =>
    obtain ⟨k, hk', rfl, HJs, HB⟩ := hrel
    by_cases hlt : k < n
    · obtain ⟨b, off, x, rfl, _, _, hz, hc⟩ := rd_elem TEdit.len (HR.out.below HB.out hhi) HL.out hlt
      have c0 : wr.cell? ⟨b, off + k * 6, none⟩ = _ := hc 0 _ rfl
      have c1 := hc 1 _ rfl
      have c2 := hc 2 _ rfl
      have c3 := hc 3 _ rfl
      have c4 := hc 4 _ rfl
      have c5 := hc 5 _ rfl
      have HS := Lib.hid (show n₀ ≤ wr.heap.size by have := HB.out.size; omega)
      have HJ1 := Lib.hid (HJ.out _ _ _ none HJs.out (World.grownBy_alloc wr (.cells #[.int .i64 x.f0, .int .i64 x.f1, .int .i64 x.f2, .int .i64 x.f3, .int .i64 x.f4, .int .i64 x.f5] 157) none) (fun r e => by cases e))
      have HB1 := Lib.hid (HB.out.alloc HS.out (.cells #[.int .i64 x.f0, .int .i64 x.f1, .int .i64 x.f2, .int .i64 x.f3, .int .i64 x.f4, .int .i64 x.f5] 157))
      have H2 := Lib.hid (show xs.take (k + 1) = xs.take k ++ [x] by rw [List.take_add_one, hz]; rfl)
      have hfl : (xs.take k).length < n := Nat.lt_of_le_of_lt (List.length_take_le _ _) hlt
      clear hz hc
      obtain ⟨fn, tmps, assign, body, hy, hR⟩ := HY.out _ x _ HJ1.out hfl
      gi_wp2
      refine hR.mono ?_
      rintro e W3 (⟨rfl, hJ3, hk3⟩ | ⟨rfl, hJx3⟩)
      · have HJ3 := Lib.hid hJ3
        have HB3 := Lib.hid (HB1.out.trans hk3)
        clear hJ3 hk3
        gi_wp2
        go_roundw
        case rel => exact ⟨k + 1, by omega, by go_num, Lib.hid (by rw [H2.out]; exact HJ3.out), HB3⟩
        case measure => simp [intOf]; omega
      · have HJ3 := Lib.hid hJx3
        clear hJx3
        gi_wp2
        refine bodyPost_ret (results_none rfl _ _ _) rfl ?_
        exact ⟨⟨_, rfl⟩, .inr ⟨_, trivial, HJ3.out⟩⟩
    · obtain rfl : n = k := by omega
      have HJ2 := Lib.hid (show J xs wr by have := HJs.out; rwa [List.take_of_length_le (by rw [HL.out]; omega)] at this)
      gi_wp2
      go_end0
      exact ⟨⟨_, rfl⟩, .inl ⟨_, rfl, HJ2.out⟩⟩
theorem stops_Values (m : Nat) (hm : 1 ≤ m) (n₀ : Nat) (xs : List TEdit) (A : Option Addr) (n c lo hi Bl : Nat) (w : World) (kl : BoxAt w Bl 58 #[.slice A n c]) (hr : Rd w lo hi 6 A n (cEdit xs)) (hhi : hi ≤ n₀) (hl : Bl < n₀) (hn : n ≤ 1048576) (hn₀ : n₀ ≤ w.heap.size) :
    SeqStopsK Fence.wide m Tryz.prog 135 #[.pointer (some ⟨Bl, 0, none⟩)] (fun x : TEdit => #[Value.agg #[.int .i64 x.f0, .int .i64 x.f1, .int .i64 x.f2, .int .i64 x.f3, .int .i64 x.f4, .int .i64 x.f5]]) (Below n₀) (fun ys => ys = xs) (fun _ => True) n w := fun l J Jx W hW hJ _ hY h0 =>
  ev_Values m hm l n₀ xs A n c lo hi Bl J Jx W hJ hY (kl.new hW) (hr.new hW) hhi hl hn (Nat.le_trans hn₀ hW.size) h0
theorem make_Values (A : Option Addr) (n c : Nat) (w : World) : Calls Tryz.prog 104 #[.slice A n c] w fun e w' => ∃ Bl : Nat,
    e = .returned (.func (.func 135) #[] #[.pointer (some ⟨Bl, 0, none⟩)]) ∧ BoxAt w' Bl 58 #[.slice A n c] ∧ Below w.heap.size w w' := by
  have hmf : ∀ (fn : Fn) (first cap : Array Value) (w : World), (Instr.makeFunc fn first cap).run Tryz.prog w = .ok (.func fn first cap) w := fun _ _ _ _ => rfl
  have K0 := Lib.hid (box_new w 58 #[.slice A n c])
  go_enter Tryz.func104, Tryz.ntmps104
  go_wp2_with fail
  go_ret
  exact ⟨_, rfl, K0.out, (Below.refl _ _).alloc (Nat.le_refl _) _⟩
end Go.Proofs.YtjgcgipglmhgeaaGreat
namespace Go.Proofs.YtjgcgipglmhgeaaGreat
open Go Go.ChangeShapes Go.WideShapes Go.ChangeAt Go.RowKit Go.Lib Go.Shelf
set_option linter.unusedVariables false
set_option linter.unusedSimpArgs false
set_option maxRecDepth 100000
attribute [local go_sem] Oper.semAt_some
/-- From A to B no block below n₁ has turned, and none of those that are named. -/
def KpB (n₁ : Nat) (S : List Nat) (A B : World) : Prop := Below n₁ A B ∧ ∀ k ∈ S, B.heap[k]? = A.heap[k]?
section
variable {n₁ : Nat} {S : List Nat} {A B C : World}
theorem KpB.refl (n₁ : Nat) (S : List Nat) (A : World) : KpB n₁ S A A := ⟨Below.refl _ _, fun _ _ => rfl⟩
theorem KpB.trans (h : KpB n₁ S A B) (k : KpB n₁ S B C) : KpB n₁ S A C := ⟨h.1.trans k.1, fun i hi => (k.2 i hi).trans (h.2 i hi)⟩
theorem KpB.new (h : KpB n₁ S A B) (hn : n₁ ≤ A.heap.size) (hS : ∀ k ∈ S, k < A.heap.size) (hb : Below B.heap.size B C) : KpB n₁ S A C :=
  ⟨below_trans (B := n₁) h.1 hb hn, fun k hk => (hb.block k (Nat.lt_of_lt_of_le (hS k hk) h.1.size)).trans (h.2 k hk)⟩
theorem kpb_b {w : World} (hn : n₁ ≤ w.heap.size) (hS : ∀ k ∈ S, k < w.heap.size) (W : World) (l : Nat) (o o' : Obj) (hl : w.heap.size ≤ l) (h : W.heap[l]? = some o) (h1 : o.isCells = false) (h2 : o.isWalk = false) : KpB n₁ S W (W.putObj l o') :=
  ⟨belowK_b hn W l o o' hl h h1 h2, fun k hk => (belowK_b (Nat.le_refl w.heap.size) W l o o' hl h h1 h2).block k (hS k hk)⟩
end
theorem wpListIn_app {F : Fence} {n : Nat} {P : Program} (w : World) {ops : Array Oper} {rest : List Oper} {o : Oper} {a : Act} {Q : Exit → Act → World → Prop}
    (hg : o.guard = none) (s x : Operand) (t : TypeId) (hop : o.op = Op.call { callee := Callee.builtin Builtin.append, args := #[s, x], argTypes := #[t, t] })
    (base : Nat) (e : TypeId) (z : Value) (size bytes : Nat) (ht : P.underlying t = some (.slice e)) (hinfo : (P.info? e).map (fun i => (i.zero, i.size, i.bytes)) = some (some z, size, bytes))
    (hzs : z.cells.size = size) (hsz : 0 < size) (v : Value) (k : Nat) (xs : List Value) (hs : a.eval s = v) (hown : w.ownsRow base e size v k xs)
    (lo hi : Nat) (A : Option Addr) (m c : Nat) (news : List Value) (hx : a.eval x = .slice A m c) (hr : Rd w lo hi size A m news) (h1 : ∀ u ∈ news, u.oneCell' = true)
    (b1 : k + m ≤ maxLen) (b2 : (k + m) * bytes ≤ 140737488355328) (b3 : base ≤ w.heap.size)
    (hK : ∀ v' w', w'.ownsRow base e size v' (k + m) (xs ++ news) → w.grownBy w' v.ownBlock → (v'.ownBlock = v.ownBlock ∨ v'.ownBlock = some w.heap.size) → wpListIn F n P ops Q rest (a.put o.dst v') w') :
    wpListIn F n P ops Q (o :: rest) a w := by
  refine wpListIn_plain hg fun K hK' => ?_
  obtain ⟨v', w', hrun, r1, r2, r3⟩ := run_app (P := P) base t o.type e z size bytes ht hinfo hzs hsz v k xs hown lo hi A m c news hr h1 b1 b2 b3
  unfold Oper.wpIn
  refine ⟨?_, ?_⟩
  · simp [Oper.about, hop, resolve, Target.leads, Sem.run_pure]
  · rw [Oper.semAt_plain F _ _ (by rw [hop]; intro c hc'; cases hc')]
    simp [execOp, hop, resolve, invoke, builtin, hs, hx, hrun, Result.andThen]
    exact hK' _ _ (hK v' w' r1 r2 r3)
end Go.Proofs.YtjgcgipglmhgeaaGreat
namespace Go.Proofs.YtjgcgipglmhgeaaGreat
open Go Go.ChangeShapes Go.WideShapes Go.ChangeAt Go.RowKit Go.Lib Go.Shelf
set_option linter.unusedVariables false
set_option linter.unusedSimpArgs false
set_option maxRecDepth 100000
attribute [local go_sem] Oper.semAt_some
theorem frt_own {β : Type} (n₀ B : Nat) (t : TypeId) (k : β → Nat) (f : β → List Value) : Own (fun s W => ∃ A c, Boxed W B t (.slice A (k s) c) ∧ (0 < k s → W.ownsRow n₀ 70 5 (.slice A (k s) c) (k s) (f s))) := by
  rintro s P Y row ⟨A, c, hv, hr⟩ hg hrow
  refine ⟨A, c, hv.kept hg (fun e' => ?_), fun h0 => ?_⟩
  · obtain ⟨o, ho, hc⟩ := hrow B e'.symm
    rw [show P.heap[B]? = _ from hv] at ho; cases ho; cases hc
  · have h := hr h0
    refine h.kept hg ?_
    rcases h.2 with ⟨h1, _⟩ | ⟨g, cap, cur, h1, _, hgb, _⟩
    · exact .inl (by rw [h1]; rfl)
    · refine .inr fun e' => ?_
      obtain ⟨o, ho, hc⟩ := hrow g (by rw [h1] at e'; simpa [Value.ownBlock] using e'.symm)
      rw [hgb] at ho; cases ho; cases hc
theorem frt_fr {W : World} {n₀ n c : Nat} {A : Option Addr} {xs : List TNode} (hl : xs.length = n) (h : 0 < n → W.ownsRow n₀ 70 5 (.slice A n c) n (cNode xs)) : Fr W n₀ W.heap.size 70 5 A n c (cNode xs) := by
  refine ⟨by rw [flat_len TNode.len, hl], fun h0 => ⟨h h0, fun a ha => ?_⟩⟩
  rcases (h h0).2 with ⟨_, hz⟩ | ⟨g, cap, cur, hv, hg, hh, _⟩
  · omega
  · injection hv with hv _ _
    rw [hv] at ha
    injection ha with ha
    subst ha
    exact (Array.getElem?_eq_some_iff.1 hh).1
theorem row_tightN {W : World} {base D n c : Nat} {A : Option Addr} {xs : List TNode} (hl : xs.length = n) (h : 0 < n → W.ownsRow base 70 5 (.slice A n c) n (cNode xs)) (hD : W.heap[D]? = some (.deferred (some []))) :
    ∃ (lo hi : Nat), Fr W lo hi 70 5 A n c (cNode xs) ∧ base ≤ lo ∧ hi ≤ W.heap.size ∧ ¬ (lo ≤ D ∧ D < hi) := by
  rcases Nat.eq_zero_or_pos n with h0 | h0
  · exact ⟨base, 0, ⟨by rw [flat_len TNode.len, hl], fun h1 => absurd h1 (by omega)⟩, Nat.le_refl _, Nat.zero_le _, by omega⟩
  · have ho := h h0
    rcases ho.2 with ⟨_, hz⟩ | ⟨g, cap, cur, hv, hg, hh, rest⟩
    · omega
    · have hA : A = some ⟨g, 0, none⟩ := by injection hv
      refine ⟨g, g + 1, ⟨ho.1, fun _ => ⟨⟨ho.1, .inr ⟨g, cap, cur, hv, Nat.le_refl _, hh, rest⟩⟩, fun a ha => by rw [hA] at ha; injection ha with ha; subst ha; exact Nat.lt_succ_self _⟩⟩, hg, (Array.getElem?_eq_some_iff.1 hh).1, fun hn => ?_⟩
      obtain rfl : g = D := by omega
      rw [hh] at hD
      cases hD
set_option maxHeartbeats 16000000 in
theorem replay_in (m : Nat) (hm : 3 ≤ m) (gf : Nat) (lb : Array Value) (ys : List TEdit) (N : Nat) (l : List TNode) (A : Option Addr) (n c lo hi : Nat) (w : World) (hn : n ≤ 1048576) (hr : Rd w lo hi 5 A n (cNode l)) (hok : Hid (cNodeOk l))
    (eg : ∀ args w, (callFunc gf args).run Tryz.prog w = .ok (.enter gf args) w) (hF : Fence.wide.fn gf)
    (hs : ∀ W, Below w.heap.size w W → SeqStopsK Fence.wide (m - 1) Tryz.prog gf lb (fun x : TEdit => #[Value.agg #[.int .i64 x.f0, .int .i64 x.f1, .int .i64 x.f2, .int .i64 x.f3, .int .i64 x.f4, .int .i64 x.f5]]) (Below w.heap.size) (fun zs => zs = ys) (fun _ => True) N W) :
    CallsIn Fence.wide m Tryz.prog 103 #[.slice A n c, .func (.func gf) #[] lb] w fun e w' => ∃ (A' : Option Addr) (c' : Nat), e = .returned (.slice A' (mRun l ys).length c') ∧ Fr w' w.heap.size w'.heap.size 70 5 A' (mRun l ys).length c' (cNode (mRun l ys)) ∧ Below w.heap.size w w' := by
  have h1 : 1 ≤ m := by omega
  have HR := Lib.hid hr
  have HLn := Lib.hid (rd_len TNode.len hr (by decide))
  clear hr
  refine callsIn_of_wp_marks Tryz.func103 rfl trivial ?_ rfl
  simp only [Tryz.ntmps103, List.size_toArray, List.length_cons, List.length_nil, Nat.reduceAdd, Nat.reduceSub, Array.replicate_succ, Array.replicate_zero, List.push_toArray, List.append_toArray, List.nil_append, List.cons_append]
  gi_wp2
  refine ⟨trivial, (callsIn_wide.2 (clone_Node l A n c lo hi _ hn HR.out)).mono ?_⟩
  rintro e w1 ⟨v, rfl, ho, hb⟩
  obtain ⟨A1, c1, rfl, _⟩ := fr_of_own ho
  have hB0 : Below w.heap.size w w1 := hb
  have hbx : Boxed (w1.alloc (.cells #[.slice A1 n c1] 31)) w1.heap.size 31 (.slice A1 n c1) := Boxed.new w1 31 (.slice A1 n c1)
  have hB1 : Below w.heap.size w (w1.alloc (.cells #[.slice A1 n c1] 31)) := hB0.alloc hB0.size _
  have ho1 : (w1.alloc (.cells #[.slice A1 n c1] 31)).ownsRow w.heap.size 70 5 (.slice A1 n c1) n (cNode l) := ho.alloc _
  clear hb
  gi_wp2
  refine wpIn_rangeFunc_ownH rfl h1 (gf := gf) (lb := lb) rfl hF eg
    (hs _ hB1) (fun h k => h.trans k) (belowK_b hB1.size) (Below.refl _ _) (fun _ => rfl)
    (fun pre W => (∃ A' c', Boxed W w1.heap.size 31 (.slice A' (mRun l pre).length c') ∧ (0 < (mRun l pre).length → W.ownsRow w.heap.size 70 5 (.slice A' (mRun l pre).length c') (mRun l pre).length (cNode (mRun l pre)))) ∧ (Below w.heap.size w W ∧ w1.heap.size + 1 ≤ W.heap.size))
    (fun _ _ _ => False)
    (OwnFrom.and (Own.from (frt_own w.heap.size w1.heap.size 31 (fun pre : List TEdit => (mRun l pre).length) (fun pre => cNode (mRun l pre))) _) (OwnFrom.and (ownFrom_below (Nat.le_refl _) hB1.size) (fun _ _ _ _ hs hg _ => Nat.le_trans hs hg.size)))
    (fun _ _ _ _ _ hs _ _ => hs)
    ⟨⟨A1, c1, by rw [show (mRun l []).length = n from HLn.out]; exact hbx, fun _ => by rw [show (mRun l []).length = n from HLn.out]; exact ho1⟩, hB1, by simp⟩
    (fun x a' W => ∃ Bx, w1.heap.size + 1 ≤ Bx ∧ BoxAt W Bx 157 #[.int .i64 x.f0, .int .i64 x.f1, .int .i64 x.f2, .int .i64 x.f3, .int .i64 x.f4, .int .i64 x.f5] ∧ a' = { tmps := #[.slice A n c, .func (.func gf) #[] lb, undef, undef, .slice none 0 0, .pointer (some ⟨w1.heap.size, 0, none⟩), .pointer (some ⟨Bx, 0, none⟩), undef, undef, .slice A n c, .slice A1 n c1, .func (.func gf) #[] lb, .agg #[.int .i64 x.f0, .int .i64 x.f1, .int .i64 x.f2, .int .i64 x.f3, .int .i64 x.f4, .int .i64 x.f5], undef, undef, undef, undef, undef, undef, undef, undef, undef], defers := [] })
    (fun x a' _ X Y row hs hg hr => by obtain ⟨Bx, h1, h2, h3⟩ := hs; exact ⟨Bx, h1, box_far_row h2 hg (fun r e => (hr r e).2), h3⟩)
    ?assign ?body ?done ?stop
  case assign =>
    rintro ll pre x W K ⟨⟨A', c', hv, hrow⟩, hB, hsz⟩ hK
    gi_wp2
    exact hK _ _ ((KeepsOthers.alloc _ _).from _) ((Below.refl _ W).alloc hB.size _) ⟨⟨A', c', hv.alloc _, fun h0 => (hrow h0).alloc _⟩, hB.alloc hB.size _, by simp; omega⟩ ⟨W.heap.size, hsz, box_new W 157 _, rfl⟩
  case body =>
    rintro ll pre x a' W hl ⟨r, hr'⟩ ⟨⟨A', c', hv, hrow⟩, hB, hsz⟩ ⟨Bx, hBx, hX, rfl⟩ hlt
    have hc := hv.cell
    have hfz := hv.frozen
    have x0 := hX.at_ (j := 0) rfl
    have x1 := hX.at_ (j := 1) rfl
    have x2 := hX.at_ (j := 2) rfl
    have x3 := hX.at_ (j := 3) rfl
    have x4 := hX.at_ (j := 4) rfl
    have x5 := hX.at_ (j := 5) rfl
    have hFr := frt_fr rfl hrow
    have hfit : Hid (cNodeOk (mRun l pre)) := Lib.hid (run_fits pre hok.out)
    have hlen : (mRun l pre).length ≤ 1048576 := run_le pre hok.out (by omega) (by rw [HLn.out]; exact hn)
    have CE := impl_edited x (mRun l pre) A' (mRun l pre).length c' w.heap.size W.heap.size W hlen hFr.rd hfit
    have hla := run_last l pre x
    have hbw := hv.lt
    cases hq : mEdited (mRun l pre) x with
    | none =>
      have hm2 : mRun l (pre ++ [x]) = mRun l pre := by rw [hla]; unfold mApply; rw [hq]; rfl
      replace CE := Lib.hid (apply_none CE hq)
      clear hq hla hFr
      gi_wp2
      refine ⟨trivial, fun h => (by simp [Fence.wide] at h), CallsIn.mono (CallsIn.inRound ll (callsIn_wide.2 CE.out)) ?_⟩
      rintro e w2 ⟨rfl, hb2⟩
      gi_wp2
      refine ⟨(KeepsOthers.of_grownBy (grown_of_below hb2) (fun j o h => by cases h)).from _, hb2.mono hB.size, ⟨A', c', ?_, ?_⟩, hB.trans (hb2.mono hB.size), Nat.le_trans hsz hb2.size⟩
      · rw [hm2]; exact (hb2.block _ hbw).trans hv
      · rw [hm2]; exact fun h0 => own_newer (hrow h0) hb2
    | some q =>
      have hm2 : mRun l (pre ++ [x]) = q := by rw [hla]; unfold mApply; rw [hq]; rfl
      replace CE := Lib.hid (apply_some W.heap.size (Nat.le_refl _) CE hq)
      clear hq hla hFr
      gi_wp2
      refine ⟨trivial, fun h => (by simp [Fence.wide] at h), CallsIn.mono (CallsIn.inRound ll (callsIn_wide.2 CE.out)) ?_⟩
      rintro e w2 ⟨A2, c2, rfl, hF2, hb2⟩
      have hv2 : Boxed w2 w1.heap.size 31 (.slice A' (mRun l pre).length c') := (hb2.block _ hbw).trans hv
      have hcc := hv2.cell
      have hff := hv2.frozen
      gi_wp2
      refine ⟨((KeepsOthers.of_grownBy (grown_of_below hb2) (fun j o h => by cases h)).trans (KeepsOthers.setCell _ _ _)).from _, (hb2.mono hB.size).setCell (by have := hB0.size; simpa using this) _, ⟨A2, c2, ?_, ?_⟩, (hB.trans (hb2.mono hB.size)).setCell (by have := hB0.size; simpa using this) _, by simp [World.setCell]; exact Nat.le_trans hsz hb2.size⟩
      · rw [hm2]; exact hv2.set _
      · rw [hm2]
        intro h0
        have h := (hF2.keep (w' := w2.setCell ⟨w1.heap.size, 0, none⟩ (.slice A2 q.length c2)) (fun b b1 b2 b3 => Below.heap_setCell w2 ⟨w1.heap.size, 0, none⟩ _ b (by simp; omega))).2 h0
        exact own_base h.1 hB.size
  case done =>
    rintro D zs W hD rfl ⟨⟨A', c', hv, hrow⟩, hB, hsz⟩ hK
    have hc := hv.cell
    obtain ⟨lo', hi', hF, hlo, hhi', hnD⟩ := row_tightN rfl hrow hK
    gi_wp2
    refine ⟨by simp, .inl ⟨_, _, rfl, run_takeDeferred hK, ?_⟩⟩
    refine ⟨_, results_tmp rfl _ _ _, A', c', rfl, ?_, ?_⟩
    · refine (hF.keep fun b b1 b2 b3 => World.putObj_heap_other (fun e => hnD (by omega))).mono hlo ?_
      simp
      omega
    · exact hB.trans (belowK_b (w := w) (Nat.le_refl _) W D _ _ (by have := hB1.size; simp at hD this; omega) hK rfl rfl)
  case stop =>
    rintro D c pre W _ _ h _
    exact h.elim
end Go.Proofs.YtjgcgipglmhgeaaGreat
namespace Go.Proofs.YtjgcgipglmhgeaaGreat
open Go Go.ChangeShapes Go.WideShapes Go.ChangeAt Go.RowKit Go.Lib
set_option linter.unusedVariables false
set_option linter.unusedSimpArgs false
set_option maxRecDepth 100000
theorem l5_copy (l : List TNode) (A : Option Addr) (n c lo hi : Nat) (w : World) (hn : n ≤ 1048576) (hr : Rd w lo hi 5 A n (cNode l)) :
    Calls Tryz.prog 84 #[.slice A n c] w (MakesO 70 5 n (cNode l) w) := by
  have HR := Lib.hid hr
  have HO := Lib.hid (World.ownsRow_lit (e := 70) (size := 5) w #[] 0 (Nat.le_refl _) (by unfold maxLen; omega) rfl)
  clear hr
  go_enter Tryz.func84, Tryz.ntmps84
  go_wp2_with (at_builtin; refine wp_app rfl _ _ _ rfl w.heap.size 70 (.agg #[.int .i64 0, .int .i64 0, .int .i64 0, .int .i64 0, .int .i64 0]) 5 40 Tryz.underlying31 icNode rfl (by decide) _ _ _ rfl HO.out lo hi A n c (cNode l) rfl (HR.out.alloc _) (ocNode l) (by unfold maxLen; omega) (by omega) (by simp) ?_; intro v1 w1 ho1 hb1 _ _; have HO1 := Lib.hid ho1; have HB1 := Lib.hid (((Below.refl w.heap.size w).alloc (Nat.le_refl _) _).trans hb1); clear ho1 hb1)
  go_ret
  exact ⟨_, rfl, by simpa using HO1.out, HB1.out⟩
end Go.Proofs.YtjgcgipglmhgeaaGreat
namespace Go.Proofs.YtjgcgipglmhgeaaGreat
open Go Go.ChangeShapes Go.WideShapes Go.ChangeAt Go.RowKit Go.Lib
set_option linter.unusedVariables false
set_option linter.unusedSimpArgs false
set_option maxRecDepth 100000

def MakesQ (r : List TNode) (b : Bool) (w : World) (e : Ending) (w' : World) : Prop :=
  ∃ A c, e = .returned (.tuple #[.slice A r.length c, .bool b]) ∧ Fr w' w.heap.size w'.heap.size 70 5 A r.length c (cNode r) ∧ Below w.heap.size w w'
theorem makesq_of_own {w w' : World} {base n : Nat} {r : List TNode} {b : Bool} {v : Value} (hb : w.heap.size ≤ base) (h : w'.ownsRow base 70 5 v n (cNode r)) (hn : n = r.length) (hB : Below w.heap.size w w') : MakesQ r b w (.returned (.tuple #[v, .bool b])) w' := by
  subst hn
  obtain ⟨A, c, rfl, hF⟩ := fr_of_own h
  exact ⟨A, c, rfl, hF.mono hb (Nat.le_refl _), hB⟩
theorem l5_base (base : Nat) (l : List TNode) (A : Option Addr) (n c lo hi : Nat) (w : World) (hb : base ≤ w.heap.size) (hn : n ≤ 1048576) (hr : Rd w lo hi 5 A n (cNode l)) :
    Calls Tryz.prog 84 #[.slice A n c] w (fun e w' => ∃ v, e = .returned v ∧ w'.ownsRow base 70 5 v n (cNode l) ∧ Below w.heap.size w w') :=
  (l5_copy l A n c lo hi w hn hr).mono fun _ _ ⟨v, he, ho, h⟩ => ⟨v, he, own_base ho hb, h⟩
theorem flatN_drop (l : List TNode) (k : Nat) : cNode (l.drop k) = (cNode l).drop (k * 5) := by
  by_cases h : k ≤ l.length
  · have e : cNode l = cNode (l.take k) ++ cNode (l.drop k) := by rw [← List.flatMap_append, List.take_append_drop]
    rw [e, List.drop_left' (by rw [flat_len TNode.len, List.length_take]; omega)]
  · rw [List.drop_eq_nil_of_le (by omega), List.drop_eq_nil_of_le (by rw [flat_len TNode.len]; omega)]; rfl
theorem rdN_take {w : World} {lo hi n k : Nat} {A : Option Addr} {l : List TNode} (h : Rd w lo hi 5 A n (cNode l)) (hk : k ≤ n) : Rd w lo hi 5 A k (cNode (l.take k)) := by
  have hl := rd_len TNode.len h (by decide)
  refine ⟨by rw [flat_len TNode.len, List.length_take]; omega, fun h0 => ?_⟩
  obtain ⟨b, off, e, h1, h2, hc⟩ := h.2 (by omega)
  refine ⟨b, off, e, h1, h2, fun j u hu => hc j u ?_⟩
  have hu' : ((cNode l).take (k * 5))[j]? = some u := by rw [← hu]; exact congrArg (·[j]?) (flat_take (c := TNode.cells) TNode.len l k).symm
  rw [List.getElem?_take] at hu'
  split at hu'
  · exact hu'
  · cases hu'
theorem rdN_drop {w : World} {lo hi n k : Nat} {b off : Nat} {l : List TNode} (h : Rd w lo hi 5 (some ⟨b, off, none⟩) n (cNode l)) (hk : k ≤ n) : Rd w lo hi 5 (some ⟨b, off + k * 5, none⟩) (n - k) (cNode (l.drop k)) := by
  have hl := rd_len TNode.len h (by decide)
  refine ⟨by rw [flat_len TNode.len, List.length_drop]; omega, fun h0 => ?_⟩
  obtain ⟨b', off', e, h1, h2, hc⟩ := h.2 (by omega)
  injection e with e; injection e with e1 e2; subst e1; subst e2
  refine ⟨_, _, rfl, h1, h2, fun j u hu => ?_⟩
  rw [Nat.add_assoc]
  refine hc (k * 5 + j) u ?_
  rw [flatN_drop, List.getElem?_drop] at hu
  exact hu
theorem ocOne (x : TNode) : ∀ u ∈ (#[.int .i64 x.f0, .int .i64 x.f1, .int .i64 x.f2, .int .i64 x.f3, .int .i64 x.f4] : Array Value).toList, u.oneCell' = true := by
  intro u hu
  simp only [List.mem_cons, List.not_mem_nil, or_false] at hu
  rcases hu with rfl | rfl | rfl | rfl | rfl <;> rfl
set_option maxHeartbeats 8000000 in
theorem spec_l5Drop (id : Int) (l : List TNode) (A : Option Addr) (n c lo hi : Nat) (w : World) (hn : n ≤ 1048576) (hr : Rd w lo hi 5 A n (cNode l)) (hcap : n ≤ c) (hok : Hid (cNodeOk l)) (wid : (Lit.int .i64 id).wf = true) :
    Calls Tryz.prog 116 #[.slice A n c, .int .i64 id] w (MakesQ ((mDrop l id).getD l) (mDrop l id).isSome w) := by
  have HL := Lib.hid (rd_len TNode.len hr (by decide))
  have HR := Lib.hid hr
  have HC := Lib.hid hcap
  have WID := Lib.hid wid
  clear hr hcap wid
  by_cases ht : (idx l id).isSome = true
  · have HE := Lib.hid (show mDrop l id = some (l.filter (stays l id)) by unfold mDrop; rw [if_pos ht])
    have g1 : decide (mNodeOf l id < 0) = false := by have := mNodeOf_pos ht; simp; omega
    rw [HE.out]
    generalize hP : stays l id = P
    have HP := Lib.hid hP
    clear hP ht
    go_enter Tryz.func116, Tryz.ntmps116
    go_wp2_with fail
    refine (spec_NodeOf' l A n c lo hi id _ (by omega) HR.out).mono ?_
    rintro e w1 ⟨rfl, rfl⟩
    go_wp2_with fail
    go_loopg [6, 7] n (fun gg v i wr => ∃ k : Nat, k ≤ n ∧ n - k ≤ gg ∧ i = .int .i64 k ∧ Hid (wr.ownsRow w.heap.size 70 5 v ((l.take k).filter P).length (cNode ((l.take k).filter P))) ∧ Hid (Below w.heap.size w wr))
    case atStart => exact ⟨0, Nat.zero_le _, by omega, rfl, Lib.hid (World.ownsRow_lit w #[] 0 (Nat.le_refl _) (by unfold maxLen; omega) rfl), Lib.hid ((Below.refl _ _).alloc (Nat.le_refl _) _)⟩
    case round =>
      obtain ⟨k, hk, hg, rfl, HO, HB⟩ := hrel
      by_cases hlt : k < n
      · have HRw := Lib.hid (HR.out.new HB.out)
        obtain ⟨b, off, x, rfl, _, _, hz, hc⟩ := rd_elem TNode.len HRw.out HL.out hlt
        have c0 : wr.cell? ⟨b, off + k * 5, none⟩ = _ := hc 0 _ rfl
        have c1 := hc 1 _ rfl
        have c2 := hc 2 _ rfl
        have c3 := hc 3 _ rfl
        have c4 := hc 4 _ rfl
        have hbl : b < wr.heap.size := World.block_lt_of_cell? _ _ c0
        have HE2 := Lib.hid (filter_sn P hz)
        have HN := Lib.hid (Nat.le_trans (List.length_filter_le P (l.take k)) (List.length_take_le _ _))
        have HPx := Lib.hid (show (!mUnder l x.f0 id) = P x by rw [← HP.out]; rfl)
        have CU := Lib.hid (spec_IsUnder l _ n c lo hi x.f0 id wr (by omega) HRw.out HC.out hok (node_wf hok.out hz).1 WID.out)
        clear hz hc
        cases hu : mUnder l x.f0 id with
        | true =>
          rw [hu] at CU HPx
          have H2 := Lib.hid (by have := HE2.out; rwa [if_neg (by rw [← HPx.out]; decide)] at this)
          clear HE2 HPx hu
          go_wp2_with fail
          refine CU.out.mono ?_
          rintro e w1 ⟨rfl, hb1⟩
          have HB1 := Lib.hid (below_trans HB.out hb1 (Nat.le_refl _))
          have HO1 := Lib.hid (own_newer HO.out hb1)
          clear hb1 CU
          go_wp2_with fail
          have HS := Lib.hid HB1.out.size
          go_roundg (n - (k + 1))
          case measure => omega
          case rel => exact ⟨k + 1, by omega, by omega, by go_num, by rw [H2.out]; exact HO1, HB1⟩
        | false =>
          rw [hu] at CU HPx
          have H2 := Lib.hid (by have := HE2.out; rwa [if_pos (by rw [← HPx.out]; decide)] at this)
          clear HE2 HPx hu
          go_wp2_with fail
          refine CU.out.mono ?_
          rintro e w1 ⟨rfl, hb1⟩
          obtain ⟨hc1, hf1⟩ := bcell hb1
          have HB1 := Lib.hid (below_trans HB.out hb1 (Nat.le_refl _))
          have HO1 := Lib.hid (own_newer HO.out hb1)
          have d0 := (hc1 b (off + k * 5) hbl).trans c0
          have d1 := (hc1 b (off + k * 5 + 1) hbl).trans c1
          have d2 := (hc1 b (off + k * 5 + 2) hbl).trans c2
          have d3 := (hc1 b (off + k * 5 + 3) hbl).trans c3
          have d4 := (hc1 b (off + k * 5 + 4) hbl).trans c4
          have hs1 := hb1.size
          have hbl1 : b < w1.heap.size := by omega
          have HS := Lib.hid HB1.out.size
          clear hb1 hc1 hf1 CU
          go_wp2_with (at_builtin; refine wp_app_lit rfl _ _ _ rfl w.heap.size 70 (.agg #[.int .i64 0, .int .i64 0, .int .i64 0, .int .i64 0, .int .i64 0]) 5 40 Tryz.underlying31 icNode rfl (by decide) _ _ _ rfl HO1.out #[.int .i64 x.f0, .int .i64 x.f1, .int .i64 x.f2, .int .i64 x.f3, .int .i64 x.f4] 1 1 _ rfl (by simp) rfl (ocOne x) (by have := HN.out; unfold maxLen; omega) (by have := HN.out; omega) (by have := HS.out; omega) ?_; intro v1 w2 ho1 hb2)
          have HO2 := Lib.hid (show w2.ownsRow w.heap.size 70 5 v1 ((l.take (k + 1)).filter P).length (cNode ((l.take (k + 1)).filter P)) by rw [H2.out]; simpa [cNode, List.flatMap_append, TNode.cells] using ho1)
          have HB2 := Lib.hid (HB1.out.trans hb2)
          clear ho1 hb2
          go_wp2_with fail
          go_roundg (n - (k + 1))
          case measure => omega
          case rel => exact ⟨k + 1, by omega, by omega, by go_num, HO2, HB2⟩
      · obtain rfl : k = n := by omega
        have HO2 := Lib.hid (show wr.ownsRow w.heap.size _ _ _ (l.filter P).length (cNode (l.filter P)) by have := HO.out; rwa [List.take_of_length_le (by rw [HL.out]; omega)] at this)
        clear HO
        go_wp2_with fail
        go_ret2
        exact makesq_of_own (Nat.le_refl _) HO2.out rfl HB.out
  · have HE := Lib.hid (show mDrop l id = none by unfold mDrop; rw [if_neg ht])
    have g1 : decide (mNodeOf l id < 0) = true := by have := mNodeOf_neg (show (idx l id).isSome = false by simpa using ht); simpa using this
    rw [HE.out]
    clear ht
    go_enter Tryz.func116, Tryz.ntmps116
    go_wp2_with fail
    refine (spec_NodeOf' l A n c lo hi id _ (by omega) HR.out).mono ?_
    rintro e w1 ⟨rfl, rfl⟩
    go_wp2_with fail
    refine (l5_copy l A n c lo hi _ hn HR.out).mono ?_
    rintro e w1 ⟨v, rfl, ho, hb⟩
    have HO := Lib.hid ho
    have HB := Lib.hid hb
    clear ho hb
    go_wp2_with fail
    go_ret2
    exact makesq_of_own (Nat.le_refl _) HO.out HL.out.symm HB.out
set_option maxHeartbeats 16000000 in
theorem spec_l5Add (e : TEdit) (l : List TNode) (A : Option Addr) (n c lo hi : Nat) (w : World) (hn : n ≤ 1048576) (hr : Rd w lo hi 5 A n (cNode l)) (hcap : n ≤ c) (hdoc : mIsDoc l = true) :
    Calls Tryz.prog 115 #[.slice A n c, .agg #[.int .i64 e.f0, .int .i64 e.f1, .int .i64 e.f2, .int .i64 e.f3, .int .i64 e.f4, .int .i64 e.f5]] w (MakesQ ((mAdd l e).getD l) (mAdd l e).isSome w) := by
  have HL := Lib.hid (rd_len TNode.len hr (by decide))
  have hn1 : 0 < n := by
    have h := hdoc
    unfold mIsDoc at h
    rw [Bool.and_eq_true] at h
    have := inR_true.1 h.1
    have := HL.out
    omega
  have HR0 := Lib.hid (hr.old (by decide))
  have HC := Lib.hid hcap
  have HB0 := Lib.hid ((Below.refl w.heap.size w).alloc (Nat.le_refl _) (.cells #[.int .i64 e.f0, .int .i64 e.f1, .int .i64 e.f2, .int .i64 e.f3, .int .i64 e.f4, .int .i64 e.f5] 157))
  have KB0 := Lib.hid (box_new w 157 #[.int .i64 e.f0, .int .i64 e.f1, .int .i64 e.f2, .int .i64 e.f3, .int .i64 e.f4, .int .i64 e.f5])
  clear hr hcap hdoc
  cases h1 : (idx l e.f1).isSome with
  | true =>
    have g1 : decide (0 ≤ mNodeOf l e.f1) = true := by have := mNodeOf_pos h1; simp; omega
    have HE := Lib.hid (show mAdd l e = none by unfold mAdd mayAdd; simp [h1])
    go_enter Tryz.func115, Tryz.ntmps115
    go_wp2_with fail
    refine (spec_NodeOf' l A n c 0 w.heap.size e.f1 _ (by omega) (HR0.out.alloc _)).mono ?_
    rintro e1 w1 ⟨rfl, rfl⟩
    go_wp2_with fail
    refine (l5_copy l A n c 0 w.heap.size _ hn (HR0.out.alloc _)).mono ?_
    rintro e1 w1 ⟨v, rfl, ho, hb⟩
    have HO := Lib.hid ho
    have HB := Lib.hid (below_trans HB0.out hb (by simp))
    clear ho hb
    go_wp2_with fail
    go_ret2
    rw [HE.out]
    exact makesq_of_own (by simp) HO.out HL.out.symm HB.out
  | false =>
    have g1 : decide (0 ≤ mNodeOf l e.f1) = false := by have h := mNodeOf_neg h1; rw [decide_eq_false_iff_not]; omega
    cases h2 : (idx l e.f2).isSome with
    | false =>
      have g2 : decide (mNodeOf l e.f2 < 0) = true := by have h := mNodeOf_neg h2; rw [decide_eq_true_eq]; omega
      have HE := Lib.hid (show mAdd l e = none by unfold mAdd mayAdd; simp [h2])
      go_enter Tryz.func115, Tryz.ntmps115
      go_wp2_with fail
      refine (spec_NodeOf' l A n c 0 w.heap.size e.f1 _ (by omega) (HR0.out.alloc _)).mono ?_
      rintro e1 w1 ⟨rfl, rfl⟩
      go_wp2_with fail
      refine (spec_NodeOf' l A n c 0 w.heap.size e.f2 _ (by omega) (HR0.out.alloc _)).mono ?_
      rintro e1 w1 ⟨rfl, rfl⟩
      go_wp2_with fail
      refine (l5_copy l A n c 0 w.heap.size _ hn (HR0.out.alloc _)).mono ?_
      rintro e1 w1 ⟨v, rfl, ho, hb⟩
      have HO := Lib.hid ho
      have HB := Lib.hid (below_trans HB0.out hb (by simp))
      clear ho hb
      go_wp2_with fail
      go_ret2
      rw [HE.out]
      exact makesq_of_own (by simp) HO.out HL.out.symm HB.out
    | true =>
      have g2 : decide (mNodeOf l e.f2 < 0) = false := by have h := mNodeOf_pos h2; rw [decide_eq_false_iff_not]; omega
      by_cases h3 : e.f1 < e.f2
      · have g3 : decide (e.f1 < e.f2) = true := by simpa using h3
        have HE := Lib.hid (show mAdd l e = none by unfold mAdd mayAdd; simp [h3])
        clear h3
        go_enter Tryz.func115, Tryz.ntmps115
        go_wp2_with fail
        refine (spec_NodeOf' l A n c 0 w.heap.size e.f1 _ (by omega) (HR0.out.alloc _)).mono ?_
        rintro e1 w1 ⟨rfl, rfl⟩
        go_wp2_with fail
        refine (spec_NodeOf' l A n c 0 w.heap.size e.f2 _ (by omega) (HR0.out.alloc _)).mono ?_
        rintro e1 w1 ⟨rfl, rfl⟩
        go_wp2_with fail
        refine (l5_copy l A n c 0 w.heap.size _ hn (HR0.out.alloc _)).mono ?_
        rintro e1 w1 ⟨v, rfl, ho, hb⟩
        have HO := Lib.hid ho
        have HB := Lib.hid (below_trans HB0.out hb (by simp))
        clear ho hb
        go_wp2_with fail
        go_ret2
        rw [HE.out]
        exact makesq_of_own (by simp) HO.out HL.out.symm HB.out
      · have g3 : decide (e.f1 < e.f2) = false := by simpa using h3
        by_cases h4 : 16 ≤ n
        · have g4 : decide ((16 : Int) ≤ (n : Int)) = true := by simp; omega
          have HE := Lib.hid (show mAdd l e = none by unfold mAdd mayAdd; simp [HL.out, h4])
          clear h3 h4
          go_enter Tryz.func115, Tryz.ntmps115
          go_wp2_with fail
          refine (spec_NodeOf' l A n c 0 w.heap.size e.f1 _ (by omega) (HR0.out.alloc _)).mono ?_
          rintro e1 w1 ⟨rfl, rfl⟩
          go_wp2_with fail
          refine (spec_NodeOf' l A n c 0 w.heap.size e.f2 _ (by omega) (HR0.out.alloc _)).mono ?_
          rintro e1 w1 ⟨rfl, rfl⟩
          go_wp2_with fail
          refine (l5_copy l A n c 0 w.heap.size _ hn (HR0.out.alloc _)).mono ?_
          rintro e1 w1 ⟨v, rfl, ho, hb⟩
          have HO := Lib.hid ho
          have HB := Lib.hid (below_trans HB0.out hb (by simp))
          clear ho hb
          go_wp2_with fail
          go_ret2
          rw [HE.out]
          exact makesq_of_own (by simp) HO.out HL.out.symm HB.out
        · have g4 : decide ((16 : Int) ≤ (n : Int)) = false := by simp; omega
          have HE := Lib.hid (show mAdd l e = some (insAt l e) by unfold mAdd mayAdd; simp [h1, h2, HL.out, h3, h4])
          clear h3 h4
          go_enter Tryz.func115, Tryz.ntmps115
          go_wp2_with fail
          refine (spec_NodeOf' l A n c 0 w.heap.size e.f1 _ (by omega) (HR0.out.alloc _)).mono ?_
          rintro e1 w1 ⟨rfl, rfl⟩
          go_wp2_with fail
          refine (spec_NodeOf' l A n c 0 w.heap.size e.f2 _ (by omega) (HR0.out.alloc _)).mono ?_
          rintro e1 w1 ⟨rfl, rfl⟩
          go_wp2_with fail
          clear g1 g2 g3 g4 h1 h2
          go_loopg [6] n (fun gg i wr => ∃ k : Nat, k ≤ n ∧ n - k ≤ gg ∧ i = .int .i64 k ∧ Hid (BoxAt wr w.heap.size 157 #[.int .i64 e.f0, .int .i64 e.f1, .int .i64 e.f2, .int .i64 e.f3, .int .i64 e.f4, .int .i64 e.f5]) ∧ Hid (Below w.heap.size w wr) ∧ Hid (∀ x ∈ l.take k, ahead e.f1 x = true))
          case atStart => exact ⟨0, Nat.zero_le _, by omega, rfl, KB0, HB0, Lib.hid (fun x hx => by simp at hx)⟩
          case round =>
            obtain ⟨k, hk, hg, rfl, KB, HB, HM⟩ := hrel
            have k0 := KB.out.at_ (j := 0) rfl
            have k1 := KB.out.at_ (j := 1) rfl
            have k2 := KB.out.at_ (j := 2) rfl
            have k3 := KB.out.at_ (j := 3) rfl
            have k4 := KB.out.at_ (j := 4) rfl
            have k5 := KB.out.at_ (j := 5) rfl
            have hkl := KB.out.lt
            by_cases hlt : k < n
            · obtain ⟨b, off, x, rfl, _, _, hz, hc⟩ := rd_elem TNode.len (HR0.out.below HB.out (Nat.le_refl _)) HL.out hlt
              have c0 : wr.cell? ⟨b, off + k * 5, none⟩ = _ := hc 0 _ rfl
              by_cases hx : x.f0 < e.f1
              · have hd : decide (x.f0 < e.f1) = true := by simpa using hx
                have HM1 := Lib.hid (show ∀ y ∈ l.take (k + 1), ahead e.f1 y = true from fun y hy => by
                  rw [List.take_add_one, hz] at hy
                  rcases List.mem_append.1 hy with hy | hy
                  · exact HM.out y hy
                  · simp at hy; subst hy; exact hd)
                clear hz hc hx
                go_wp2_with fail
                go_quiet (fail)
                go_wp2_with fail
                go_roundg (n - (k + 1))
                case rel => exact ⟨k + 1, by omega, by omega, by go_num, Lib.hid (BoxAt.keep KB.out rfl), Lib.hid (below_dN HB.out _), HM1⟩
                case measure => omega
              · have hd : decide (x.f0 < e.f1) = false := by simpa using hx
                have HI := Lib.hid (ins_at HM.out (fun y hy => by rw [hz] at hy; injection hy with hy; subst hy; exact hd))
                have hkc : k ≤ c := by have := HC.out; omega
                have hck : ¬ c = k := by have := HC.out; omega
                have HX0 := Lib.hid hc
                clear hz hc hx
                go_wp2_with fail
                go_quiet (fail)
                have KBd := Lib.hid (show BoxAt (World.drewN wr nq) _ _ _ from KB.out)
                have HBd := Lib.hid (below_dN HB.out nq)
                clear k0 k1 k2 k3 k4 k5 hkl KB HB
                generalize World.drewN wr nq = wy at KBd HBd ⊢
                have KB := KBd
                have HB := HBd
                clear KBd HBd
                have k0 := KB.out.at_ (j := 0) rfl
                have k1 := KB.out.at_ (j := 1) rfl
                have k2 := KB.out.at_ (j := 2) rfl
                have k3 := KB.out.at_ (j := 3) rfl
                have k4 := KB.out.at_ (j := 4) rfl
                have k5 := KB.out.at_ (j := 5) rfl
                have hkl := KB.out.lt
                have KZ := box_new wy 70 #[.int .i64 0, .int .i64 0, .int .i64 0, .int .i64 0, .int .i64 0]
                have KX := Lib.hid (box_row (cs := #[.int .i64 e.f1, .int .i64 e.f2, .int .i64 e.f3, .int .i64 e.f4, .int .i64 e.f5]) KZ)
                have HBx := Lib.hid (below_setRow (HB.out.alloc HB.out.size (.cells #[.int .i64 0, .int .i64 0, .int .i64 0, .int .i64 0, .int .i64 0] 70)) HB.out.size #[.int .i64 e.f1, .int .i64 e.f2, .int .i64 e.f3, .int .i64 e.f4, .int .i64 e.f5])
                have HKZ := Lib.hid KZ
                have HS := HB.out.size
                clear KZ
                go_wp2_with (refine wpList_store_row rfl 70 _ _ rfl wy.heap.size #[.int .i64 e.f1, .int .i64 e.f2, .int .i64 e.f3, .int .i64 e.f4, .int .i64 e.f5] rfl rfl 70 _ HKZ.out (by kernel_rfl) (by kernel_rfl) (by kernel_rfl) ?_; generalize hW3 : World.setRow (wy.alloc (.cells #[.int .i64 0, .int .i64 0, .int .i64 0, .int .i64 0, .int .i64 0] 70)) wy.heap.size #[.int .i64 e.f1, .int .i64 e.f2, .int .i64 e.f3, .int .i64 e.f4, .int .i64 e.f5] = w3 at KX HBx ⊢)
                have HT3 := Lib.hid (rdN_take (HR0.out.below HBx.out (Nat.le_refl _)) (show k ≤ n by omega))
                have HD3 := Lib.hid (rdN_drop (HR0.out.below HBx.out (Nat.le_refl _)) (show k ≤ n by omega))
                have hx3 := KX.out.lt
                clear hW3 HKZ
                refine wp_region_held_drew (S := fun w' => BoxAt w' wy.heap.size 70 #[.int .i64 e.f1, .int .i64 e.f2, .int .i64 e.f3, .int .i64 e.f4, .int .i64 e.f5] ∧ Below w3.heap.size w3 w') (by kernel_rfl) ?_ (fun hHeld => ?_)
                · exact ⟨KX.out.drw, (Below.refl _ _).drew⟩
                generalize (World.drew _) = x0 at hHeld ⊢
                refine wpAnyH_take (i := 0) (oi := ⟨some 61, _, _, _, _, _⟩) (v := ?_) rfl (by kernel_rfl) (by kernel_rfl) (by kernel_rfl) (fun _ _ _ h => h) (Or.inl ⟨by kernel_rfl, ?_⟩) hHeld ?_
                rotate_left
                focus (intro W hS; have c0_0 := (hS.1).at_ (j := 0) rfl; have c0_1 := (hS.1).at_ (j := 1) rfl; have c0_2 := (hS.1).at_ (j := 2) rfl; have c0_3 := (hS.1).at_ (j := 3) rfl; have c0_4 := (hS.1).at_ (j := 4) rfl; clear hS; first | (go_simp; done) | (go_simp; with_reducible rfl))
                try simp only [Act.put, List.setIfInBounds_toArray, List.set_cons_zero, List.set_cons_succ]
                refine wpAnyH_take (i := 1) (oi := ⟨some 62, _, _, _, _, _⟩) (v := ?_) rfl (by kernel_rfl) (by kernel_rfl) (by kernel_rfl) (fun _ _ _ h => h) (Or.inl ⟨by kernel_rfl, ?_⟩) hHeld ?_
                rotate_left
                focus (intro W hS; have c0_0 := (hS.1).at_ (j := 0) rfl; have c0_1 := (hS.1).at_ (j := 1) rfl; have c0_2 := (hS.1).at_ (j := 2) rfl; have c0_3 := (hS.1).at_ (j := 3) rfl; have c0_4 := (hS.1).at_ (j := 4) rfl; clear hS; first | (go_simp; done) | (go_simp; with_reducible rfl))
                try simp only [Act.put, List.setIfInBounds_toArray, List.set_cons_zero, List.set_cons_succ]
                refine wpAnyH_take (i := 2) (oi := ⟨some 63, _, _, _, _, _⟩) (v := ?_) rfl (by kernel_rfl) (by kernel_rfl) (by kernel_rfl) (fun _ _ _ h => h) (Or.inl ⟨by kernel_rfl, ?_⟩) hHeld ?_
                rotate_left
                focus (intro W hS; have c0_0 := (hS.1).at_ (j := 0) rfl; have c0_1 := (hS.1).at_ (j := 1) rfl; have c0_2 := (hS.1).at_ (j := 2) rfl; have c0_3 := (hS.1).at_ (j := 3) rfl; have c0_4 := (hS.1).at_ (j := 4) rfl; clear hS; first | (go_simp; done) | (go_simp; with_reducible rfl))
                try simp only [Act.put, List.setIfInBounds_toArray, List.set_cons_zero, List.set_cons_succ]
                refine wpAnyH_take (i := 4) (oi := ⟨some 65, _, _, _, _, _⟩) (v := ?_) rfl (by kernel_rfl) (by kernel_rfl) (by kernel_rfl) (fun _ _ _ h => h) (Or.inl ⟨by kernel_rfl, ?_⟩) hHeld ?_
                rotate_left
                focus (intro W hS; have c0_0 := (hS.1).at_ (j := 0) rfl; have c0_1 := (hS.1).at_ (j := 1) rfl; have c0_2 := (hS.1).at_ (j := 2) rfl; have c0_3 := (hS.1).at_ (j := 3) rfl; have c0_4 := (hS.1).at_ (j := 4) rfl; clear hS; first | (go_simp; done) | (go_simp; with_reducible rfl))
                try simp only [Act.put, List.setIfInBounds_toArray, List.set_cons_zero, List.set_cons_succ]
                refine wpAnyH_take (i := 7) (oi := ⟨some 68, _, _, _, _, _⟩) (v := ?_) rfl (by kernel_rfl) (by kernel_rfl) (by kernel_rfl) (fun _ _ _ h => h) (Or.inl ⟨by kernel_rfl, ?_⟩) hHeld ?_
                rotate_left
                focus (intro W hS; have c0_0 := (hS.1).at_ (j := 0) rfl; have c0_1 := (hS.1).at_ (j := 1) rfl; have c0_2 := (hS.1).at_ (j := 2) rfl; have c0_3 := (hS.1).at_ (j := 3) rfl; have c0_4 := (hS.1).at_ (j := 4) rfl; clear hS; first | (go_simp; done) | (go_simp; with_reducible rfl))
                try simp only [Act.put, List.setIfInBounds_toArray, List.set_cons_zero, List.set_cons_succ]
                refine wpAnyH_take (i := 8) (oi := ⟨some 69, _, _, _, _, _⟩) (v := ?_) rfl (by kernel_rfl) (by kernel_rfl) (by kernel_rfl) (fun _ _ _ h => h) (Or.inl ⟨by kernel_rfl, ?_⟩) hHeld ?_
                rotate_left
                focus (intro W hS; have c0_0 := (hS.1).at_ (j := 0) rfl; have c0_1 := (hS.1).at_ (j := 1) rfl; have c0_2 := (hS.1).at_ (j := 2) rfl; have c0_3 := (hS.1).at_ (j := 3) rfl; have c0_4 := (hS.1).at_ (j := 4) rfl; clear hS; first | (go_simp; done) | (go_simp; with_reducible rfl))
                try simp only [Act.put, List.setIfInBounds_toArray, List.set_cons_zero, List.set_cons_succ]
                refine wpAnyH_take (i := 9) (oi := ⟨some 70, _, _, _, _, _⟩) (v := ?_) rfl (by kernel_rfl) (by kernel_rfl) (by kernel_rfl) (fun _ _ _ h => h) (Or.inl ⟨by kernel_rfl, ?_⟩) hHeld ?_
                rotate_left
                focus (intro W hS; have c0_0 := (hS.1).at_ (j := 0) rfl; have c0_1 := (hS.1).at_ (j := 1) rfl; have c0_2 := (hS.1).at_ (j := 2) rfl; have c0_3 := (hS.1).at_ (j := 3) rfl; have c0_4 := (hS.1).at_ (j := 4) rfl; clear hS; first | (go_simp; done) | (go_simp; with_reducible rfl))
                try simp only [Act.put, List.setIfInBounds_toArray, List.set_cons_zero, List.set_cons_succ]
                refine wpAnyH_ready (rs := [3, 5]) (by kernel_rfl) (by simp) ?_
                refine AllReadyH.cons (o := ⟨some 64, _, _, _, _, _⟩) rfl (fun K hK => ?_) ?_
                · skip
                  go_simp
                  refine Calls.mono (l5_base w3.heap.size (l.take k) _ k c 0 w.heap.size _ hHeld.2.size (by omega) (HT3.out.new hHeld.2)) ?_
                  rintro e x1 ⟨vK, rfl, GK, hb1⟩
                  refine hK.out _ _ ⟨hHeld.1.new hb1, below_trans hHeld.2 hb1 (Nat.le_refl _)⟩ (fun hHeld' => ?_)
                  clear hK K hHeld hb1
                  have hHeld := hHeld'
                  clear hHeld'
                  try simp only [Act.put, List.setIfInBounds_toArray, List.set_cons_zero, List.set_cons_succ]
                  refine wpAnyH_ready (rs := [5]) (by kernel_rfl) (by simp) ?_
                  refine AllReadyH.cons (o := ⟨some 66, _, _, _, _, _⟩) rfl (fun K hK => ?_) AllReadyH.nil
                  go_simp
                  have Gb5 := box_new (x1) 70 #[.int .i64 e.f1, .int .i64 e.f2, .int .i64 e.f3, .int .i64 e.f4, .int .i64 e.f5]
                  have hb1 := (Below.refl (x1).heap.size (x1)).alloc (Nat.le_refl _) (.cells #[.int .i64 e.f1, .int .i64 e.f2, .int .i64 e.f3, .int .i64 e.f4, .int .i64 e.f5] 70)
                  have Lb5 : w3.heap.size ≤ (x1).heap.size := by have := (hHeld.1).lt; have := (hHeld.2).size; omega
                  have M0b5 : wy.heap.size < (x1).heap.size := (hHeld.1).lt
                  replace GK := own_newer GK hb1
                  generalize (x1).alloc (.cells #[.int .i64 e.f1, .int .i64 e.f2, .int .i64 e.f3, .int .i64 e.f4, .int .i64 e.f5] 70) = x2 at hb1 Gb5 GK ⊢
                  generalize hg : (x1).heap.size = gb5 at Gb5 Lb5 M0b5 ⊢
                  clear hg
                  refine hK.out _ _ ⟨hHeld.1.new hb1, below_trans hHeld.2 hb1 (Nat.le_refl _)⟩ (fun hHeld' => ?_)
                  clear hK K hHeld hb1
                  have hHeld := hHeld'
                  clear hHeld'
                  try simp only [Act.put, List.setIfInBounds_toArray, List.set_cons_zero, List.set_cons_succ]
                  refine wpAnyH_ready (rs := [6]) (by kernel_rfl) (by simp) ?_
                  refine AllReadyH.cons (o := ⟨some 67, _, _, _, _, _⟩) rfl (fun K hK => ?_) AllReadyH.nil
                  refine step_appo rfl _ _ _ (by rfl) w3.heap.size 70 (.agg #[.int .i64 0, .int .i64 0, .int .i64 0, .int .i64 0, .int .i64 0]) 5 40 Tryz.underlying31 icNode rfl (by decide) vK (by rfl) (k) ((cNode (l.take k))) GK gb5 (gb5 + 1) (some ⟨gb5, 0, none⟩) 1 1 (#[.int .i64 e.f1, .int .i64 e.f2, .int .i64 e.f3, .int .i64 e.f4, .int .i64 e.f5] : Array Value).toList (by rfl) (rd_box5 Gb5 rfl) (one_node e) (by unfold maxLen; omega) (by omega) (by have := (hHeld.2).size; omega) ?_
                  intro Vp2 x3 hO hb0 hgr
                  have hsz0 := hb0.size
                  clear Gb5
                  have OWp2 := hO
                  have hb1 := hb0.mono (show w3.heap.size ≤ w3.heap.size by omega)
                  refine hK.out _ _ ⟨(by have := (hHeld.1).lt; exact hHeld.1.chg (chg_of_below hb0) (by omega)), (hHeld.2).trans hb1⟩ (fun hHeld' => ?_)
                  clear hK K hHeld hb1 hb0 hgr hO
                  have hHeld := hHeld'
                  clear hHeld'
                  try simp only [Act.put, List.setIfInBounds_toArray, List.set_cons_zero, List.set_cons_succ]
                  refine wpAnyH_ready (rs := [10]) (by kernel_rfl) (by simp) ?_
                  refine AllReadyH.cons (o := ⟨some 71, _, _, _, _, _⟩) rfl (fun K hK => ?_) AllReadyH.nil
                  refine step_appo rfl _ _ _ (by rfl) w3.heap.size 70 (.agg #[.int .i64 0, .int .i64 0, .int .i64 0, .int .i64 0, .int .i64 0]) 5 40 Tryz.underlying31 icNode rfl (by decide) Vp2 (by rfl) ((k + 1)) ((cNode (l.take k) ++ (#[.int .i64 e.f1, .int .i64 e.f2, .int .i64 e.f3, .int .i64 e.f4, .int .i64 e.f5] : Array Value).toList)) OWp2 0 w.heap.size _ (n - k) _ (cNode (l.drop k)) (by rfl) (HD3.out.new hHeld.2) (ocNode _) (by unfold maxLen; omega) (by omega) (by have := (hHeld.2).size; omega) ?_
                  intro Vp3 x4 hO hb0 hgr
                  have hsz0 := hb0.size
                  have OWp3 := hO
                  have hb1 := hb0.mono (show w3.heap.size ≤ w3.heap.size by omega)
                  refine hK.out _ _ ⟨(by have := (hHeld.1).lt; exact hHeld.1.chg (chg_of_below hb0) (by omega)), (hHeld.2).trans hb1⟩ (fun hHeld' => ?_)
                  clear hK K hHeld hb1 hb0 hgr hO
                  have hHeld := hHeld'
                  clear hHeld'
                  try simp only [Act.put, List.setIfInBounds_toArray, List.set_cons_zero, List.set_cons_succ]
                  refine wpAnyH_take (i := 11) (oi := ⟨some 4, _, _, _, _, _⟩) (v := ?_) rfl (by kernel_rfl) (by kernel_rfl) (by kernel_rfl) (fun _ _ _ h => h) (Or.inl ⟨by kernel_rfl, ?_⟩) hHeld ?_
                  rotate_left
                  focus (intro W hS; have c0_0 := (hS.1).at_ (j := 0) rfl; have c0_1 := (hS.1).at_ (j := 1) rfl; have c0_2 := (hS.1).at_ (j := 2) rfl; have c0_3 := (hS.1).at_ (j := 3) rfl; have c0_4 := (hS.1).at_ (j := 4) rfl; clear hS; first | (go_simp; done) | (go_simp; with_reducible rfl))
                  try simp only [Act.put, List.setIfInBounds_toArray, List.set_cons_zero, List.set_cons_succ]
                  refine wpAnyH_take (i := 12) (oi := ⟨some 5, _, _, _, _, _⟩) (v := ?_) rfl (by kernel_rfl) (by kernel_rfl) (by kernel_rfl) (fun _ _ _ h => h) (Or.inl ⟨by kernel_rfl, ?_⟩) hHeld ?_
                  rotate_left
                  focus (intro W hS; have c0_0 := (hS.1).at_ (j := 0) rfl; have c0_1 := (hS.1).at_ (j := 1) rfl; have c0_2 := (hS.1).at_ (j := 2) rfl; have c0_3 := (hS.1).at_ (j := 3) rfl; have c0_4 := (hS.1).at_ (j := 4) rfl; clear hS; first | (go_simp; done) | (go_simp; with_reducible rfl))
                  try simp only [Act.put, List.setIfInBounds_toArray, List.set_cons_zero, List.set_cons_succ]
                  refine wpAnyH_done (by kernel_rfl) ?_ _
                  go_wp2_with fail
                  go_ret2
                  have hO := OWp3
                  have e2 : cNode (l.take k) ++ (#[.int .i64 e.f1, .int .i64 e.f2, .int .i64 e.f3, .int .i64 e.f4, .int .i64 e.f5] : Array Value).toList ++ cNode (l.drop k) = cNode (insAt l e) := by rw [HI.out]; simp [cNode, TNode.cells, nAdd, List.flatMap_append]
                  rw [e2] at hO
                  rw [HE.out]
                  exact makesq_of_own HBx.out.size hO (by show _ = (insAt l e).length; rw [ins_len, HL.out]; try omega) (HBx.out.trans (hHeld.2.mono HBx.out.size))
                refine AllReadyH.cons (o := ⟨some 66, _, _, _, _, _⟩) rfl (fun K hK => ?_) ?_
                · skip
                  go_simp
                  have Gb5 := box_new (x0) 70 #[.int .i64 e.f1, .int .i64 e.f2, .int .i64 e.f3, .int .i64 e.f4, .int .i64 e.f5]
                  have hb1 := (Below.refl (x0).heap.size (x0)).alloc (Nat.le_refl _) (.cells #[.int .i64 e.f1, .int .i64 e.f2, .int .i64 e.f3, .int .i64 e.f4, .int .i64 e.f5] 70)
                  have Lb5 : w3.heap.size ≤ (x0).heap.size := by have := (hHeld.1).lt; have := (hHeld.2).size; omega
                  have M0b5 : wy.heap.size < (x0).heap.size := (hHeld.1).lt
                  generalize (x0).alloc (.cells #[.int .i64 e.f1, .int .i64 e.f2, .int .i64 e.f3, .int .i64 e.f4, .int .i64 e.f5] 70) = x1 at hb1 Gb5  ⊢
                  generalize hg : (x0).heap.size = gb5 at Gb5 Lb5 M0b5 ⊢
                  clear hg
                  refine hK.out _ _ ⟨hHeld.1.new hb1, below_trans hHeld.2 hb1 (Nat.le_refl _)⟩ (fun hHeld' => ?_)
                  clear hK K hHeld hb1
                  have hHeld := hHeld'
                  clear hHeld'
                  try simp only [Act.put, List.setIfInBounds_toArray, List.set_cons_zero, List.set_cons_succ]
                  refine wpAnyH_ready (rs := [3]) (by kernel_rfl) (by simp) ?_
                  refine AllReadyH.cons (o := ⟨some 64, _, _, _, _, _⟩) rfl (fun K hK => ?_) AllReadyH.nil
                  go_simp
                  refine Calls.mono (l5_base w3.heap.size (l.take k) _ k c 0 w.heap.size _ hHeld.2.size (by omega) (HT3.out.new hHeld.2)) ?_
                  rintro e x2 ⟨vK, rfl, GK, hb1⟩
                  replace Gb5 := Gb5.new hb1
                  refine hK.out _ _ ⟨hHeld.1.new hb1, below_trans hHeld.2 hb1 (Nat.le_refl _)⟩ (fun hHeld' => ?_)
                  clear hK K hHeld hb1
                  have hHeld := hHeld'
                  clear hHeld'
                  try simp only [Act.put, List.setIfInBounds_toArray, List.set_cons_zero, List.set_cons_succ]
                  refine wpAnyH_ready (rs := [6]) (by kernel_rfl) (by simp) ?_
                  refine AllReadyH.cons (o := ⟨some 67, _, _, _, _, _⟩) rfl (fun K hK => ?_) AllReadyH.nil
                  refine step_appo rfl _ _ _ (by rfl) w3.heap.size 70 (.agg #[.int .i64 0, .int .i64 0, .int .i64 0, .int .i64 0, .int .i64 0]) 5 40 Tryz.underlying31 icNode rfl (by decide) vK (by rfl) (k) ((cNode (l.take k))) GK gb5 (gb5 + 1) (some ⟨gb5, 0, none⟩) 1 1 (#[.int .i64 e.f1, .int .i64 e.f2, .int .i64 e.f3, .int .i64 e.f4, .int .i64 e.f5] : Array Value).toList (by rfl) (rd_box5 Gb5 rfl) (one_node e) (by unfold maxLen; omega) (by omega) (by have := (hHeld.2).size; omega) ?_
                  intro Vp2 x3 hO hb0 hgr
                  have hsz0 := hb0.size
                  clear Gb5
                  have OWp2 := hO
                  have hb1 := hb0.mono (show w3.heap.size ≤ w3.heap.size by omega)
                  refine hK.out _ _ ⟨(by have := (hHeld.1).lt; exact hHeld.1.chg (chg_of_below hb0) (by omega)), (hHeld.2).trans hb1⟩ (fun hHeld' => ?_)
                  clear hK K hHeld hb1 hb0 hgr hO
                  have hHeld := hHeld'
                  clear hHeld'
                  try simp only [Act.put, List.setIfInBounds_toArray, List.set_cons_zero, List.set_cons_succ]
                  refine wpAnyH_ready (rs := [10]) (by kernel_rfl) (by simp) ?_
                  refine AllReadyH.cons (o := ⟨some 71, _, _, _, _, _⟩) rfl (fun K hK => ?_) AllReadyH.nil
                  refine step_appo rfl _ _ _ (by rfl) w3.heap.size 70 (.agg #[.int .i64 0, .int .i64 0, .int .i64 0, .int .i64 0, .int .i64 0]) 5 40 Tryz.underlying31 icNode rfl (by decide) Vp2 (by rfl) ((k + 1)) ((cNode (l.take k) ++ (#[.int .i64 e.f1, .int .i64 e.f2, .int .i64 e.f3, .int .i64 e.f4, .int .i64 e.f5] : Array Value).toList)) OWp2 0 w.heap.size _ (n - k) _ (cNode (l.drop k)) (by rfl) (HD3.out.new hHeld.2) (ocNode _) (by unfold maxLen; omega) (by omega) (by have := (hHeld.2).size; omega) ?_
                  intro Vp3 x4 hO hb0 hgr
                  have hsz0 := hb0.size
                  have OWp3 := hO
                  have hb1 := hb0.mono (show w3.heap.size ≤ w3.heap.size by omega)
                  refine hK.out _ _ ⟨(by have := (hHeld.1).lt; exact hHeld.1.chg (chg_of_below hb0) (by omega)), (hHeld.2).trans hb1⟩ (fun hHeld' => ?_)
                  clear hK K hHeld hb1 hb0 hgr hO
                  have hHeld := hHeld'
                  clear hHeld'
                  try simp only [Act.put, List.setIfInBounds_toArray, List.set_cons_zero, List.set_cons_succ]
                  refine wpAnyH_take (i := 11) (oi := ⟨some 4, _, _, _, _, _⟩) (v := ?_) rfl (by kernel_rfl) (by kernel_rfl) (by kernel_rfl) (fun _ _ _ h => h) (Or.inl ⟨by kernel_rfl, ?_⟩) hHeld ?_
                  rotate_left
                  focus (intro W hS; have c0_0 := (hS.1).at_ (j := 0) rfl; have c0_1 := (hS.1).at_ (j := 1) rfl; have c0_2 := (hS.1).at_ (j := 2) rfl; have c0_3 := (hS.1).at_ (j := 3) rfl; have c0_4 := (hS.1).at_ (j := 4) rfl; clear hS; first | (go_simp; done) | (go_simp; with_reducible rfl))
                  try simp only [Act.put, List.setIfInBounds_toArray, List.set_cons_zero, List.set_cons_succ]
                  refine wpAnyH_take (i := 12) (oi := ⟨some 5, _, _, _, _, _⟩) (v := ?_) rfl (by kernel_rfl) (by kernel_rfl) (by kernel_rfl) (fun _ _ _ h => h) (Or.inl ⟨by kernel_rfl, ?_⟩) hHeld ?_
                  rotate_left
                  focus (intro W hS; have c0_0 := (hS.1).at_ (j := 0) rfl; have c0_1 := (hS.1).at_ (j := 1) rfl; have c0_2 := (hS.1).at_ (j := 2) rfl; have c0_3 := (hS.1).at_ (j := 3) rfl; have c0_4 := (hS.1).at_ (j := 4) rfl; clear hS; first | (go_simp; done) | (go_simp; with_reducible rfl))
                  try simp only [Act.put, List.setIfInBounds_toArray, List.set_cons_zero, List.set_cons_succ]
                  refine wpAnyH_done (by kernel_rfl) ?_ _
                  go_wp2_with fail
                  go_ret2
                  have hO := OWp3
                  have e2 : cNode (l.take k) ++ (#[.int .i64 e.f1, .int .i64 e.f2, .int .i64 e.f3, .int .i64 e.f4, .int .i64 e.f5] : Array Value).toList ++ cNode (l.drop k) = cNode (insAt l e) := by rw [HI.out]; simp [cNode, TNode.cells, nAdd, List.flatMap_append]
                  rw [e2] at hO
                  rw [HE.out]
                  exact makesq_of_own HBx.out.size hO (by show _ = (insAt l e).length; rw [ins_len, HL.out]; try omega) (HBx.out.trans (hHeld.2.mono HBx.out.size))
                exact AllReadyH.nil
            · obtain rfl : n = k := by omega
              have HI := Lib.hid (ins_at HM.out (fun y hy => by have := (List.getElem?_eq_some_iff.1 hy).1; have := HL.out; omega))
              have hkc : n ≤ c := HC.out
              by_cases hcn : c = n
              · obtain rfl : n = c := hcn.symm
                go_wp2_with fail
                go_quiet (fail)
                have KBd := Lib.hid (show BoxAt (World.drewN wr nq) _ _ _ from KB.out)
                have HBd := Lib.hid (below_dN HB.out nq)
                clear k0 k1 k2 k3 k4 k5 hkl KB HB
                generalize World.drewN wr nq = wy at KBd HBd ⊢
                have KB := KBd
                have HB := HBd
                clear KBd HBd
                have k0 := KB.out.at_ (j := 0) rfl
                have k1 := KB.out.at_ (j := 1) rfl
                have k2 := KB.out.at_ (j := 2) rfl
                have k3 := KB.out.at_ (j := 3) rfl
                have k4 := KB.out.at_ (j := 4) rfl
                have k5 := KB.out.at_ (j := 5) rfl
                have hkl := KB.out.lt
                have KZ := box_new wy 70 #[.int .i64 0, .int .i64 0, .int .i64 0, .int .i64 0, .int .i64 0]
                have KX := Lib.hid (box_row (cs := #[.int .i64 e.f1, .int .i64 e.f2, .int .i64 e.f3, .int .i64 e.f4, .int .i64 e.f5]) KZ)
                have HBx := Lib.hid (below_setRow (HB.out.alloc HB.out.size (.cells #[.int .i64 0, .int .i64 0, .int .i64 0, .int .i64 0, .int .i64 0] 70)) HB.out.size #[.int .i64 e.f1, .int .i64 e.f2, .int .i64 e.f3, .int .i64 e.f4, .int .i64 e.f5])
                have HKZ := Lib.hid KZ
                have HS := HB.out.size
                clear KZ
                go_wp2_with (refine wpList_store_row rfl 70 _ _ rfl wy.heap.size #[.int .i64 e.f1, .int .i64 e.f2, .int .i64 e.f3, .int .i64 e.f4, .int .i64 e.f5] rfl rfl 70 _ HKZ.out (by kernel_rfl) (by kernel_rfl) (by kernel_rfl) ?_; generalize hW3 : World.setRow (wy.alloc (.cells #[.int .i64 0, .int .i64 0, .int .i64 0, .int .i64 0, .int .i64 0] 70)) wy.heap.size #[.int .i64 e.f1, .int .i64 e.f2, .int .i64 e.f3, .int .i64 e.f4, .int .i64 e.f5] = w3 at KX HBx ⊢)
                have HT3 := Lib.hid (rdN_take (HR0.out.below HBx.out (Nat.le_refl _)) (show n ≤ n by omega))
                have hx3 := KX.out.lt
                clear hW3 HKZ
                refine wp_region_held_drew (S := fun w' => BoxAt w' wy.heap.size 70 #[.int .i64 e.f1, .int .i64 e.f2, .int .i64 e.f3, .int .i64 e.f4, .int .i64 e.f5] ∧ Below w3.heap.size w3 w') (by kernel_rfl) ?_ (fun hHeld => ?_)
                · exact ⟨KX.out.drw, (Below.refl _ _).drew⟩
                generalize (World.drew _) = x0 at hHeld ⊢
                refine wpAnyH_take (i := 0) (oi := ⟨some 61, _, _, _, _, _⟩) (v := ?_) rfl (by kernel_rfl) (by kernel_rfl) (by kernel_rfl) (fun _ _ _ h => h) (Or.inl ⟨by kernel_rfl, ?_⟩) hHeld ?_
                rotate_left
                focus (intro W hS; have c0_0 := (hS.1).at_ (j := 0) rfl; have c0_1 := (hS.1).at_ (j := 1) rfl; have c0_2 := (hS.1).at_ (j := 2) rfl; have c0_3 := (hS.1).at_ (j := 3) rfl; have c0_4 := (hS.1).at_ (j := 4) rfl; clear hS; first | (go_simp; done) | (go_simp; with_reducible rfl))
                try simp only [Act.put, List.setIfInBounds_toArray, List.set_cons_zero, List.set_cons_succ]
                refine wpAnyH_take (i := 1) (oi := ⟨some 62, _, _, _, _, _⟩) (v := ?_) rfl (by kernel_rfl) (by kernel_rfl) (by kernel_rfl) (fun _ _ _ h => h) (Or.inl ⟨by kernel_rfl, ?_⟩) hHeld ?_
                rotate_left
                focus (intro W hS; have c0_0 := (hS.1).at_ (j := 0) rfl; have c0_1 := (hS.1).at_ (j := 1) rfl; have c0_2 := (hS.1).at_ (j := 2) rfl; have c0_3 := (hS.1).at_ (j := 3) rfl; have c0_4 := (hS.1).at_ (j := 4) rfl; clear hS; first | (go_simp; done) | (go_simp; with_reducible rfl))
                try simp only [Act.put, List.setIfInBounds_toArray, List.set_cons_zero, List.set_cons_succ]
                refine wpAnyH_take (i := 2) (oi := ⟨some 63, _, _, _, _, _⟩) (v := ?_) rfl (by kernel_rfl) (by kernel_rfl) (by kernel_rfl) (fun _ _ _ h => h) (Or.inl ⟨by kernel_rfl, ?_⟩) hHeld ?_
                rotate_left
                focus (intro W hS; have c0_0 := (hS.1).at_ (j := 0) rfl; have c0_1 := (hS.1).at_ (j := 1) rfl; have c0_2 := (hS.1).at_ (j := 2) rfl; have c0_3 := (hS.1).at_ (j := 3) rfl; have c0_4 := (hS.1).at_ (j := 4) rfl; clear hS; first | (go_simp; done) | (go_simp; with_reducible rfl))
                try simp only [Act.put, List.setIfInBounds_toArray, List.set_cons_zero, List.set_cons_succ]
                refine wpAnyH_take (i := 4) (oi := ⟨some 65, _, _, _, _, _⟩) (v := ?_) rfl (by kernel_rfl) (by kernel_rfl) (by kernel_rfl) (fun _ _ _ h => h) (Or.inl ⟨by kernel_rfl, ?_⟩) hHeld ?_
                rotate_left
                focus (intro W hS; have c0_0 := (hS.1).at_ (j := 0) rfl; have c0_1 := (hS.1).at_ (j := 1) rfl; have c0_2 := (hS.1).at_ (j := 2) rfl; have c0_3 := (hS.1).at_ (j := 3) rfl; have c0_4 := (hS.1).at_ (j := 4) rfl; clear hS; first | (go_simp; done) | (go_simp; with_reducible rfl))
                try simp only [Act.put, List.setIfInBounds_toArray, List.set_cons_zero, List.set_cons_succ]
                refine wpAnyH_take (i := 7) (oi := ⟨some 68, _, _, _, _, _⟩) (v := ?_) rfl (by kernel_rfl) (by kernel_rfl) (by kernel_rfl) (fun _ _ _ h => h) (Or.inl ⟨by kernel_rfl, ?_⟩) hHeld ?_
                rotate_left
                focus (intro W hS; have c0_0 := (hS.1).at_ (j := 0) rfl; have c0_1 := (hS.1).at_ (j := 1) rfl; have c0_2 := (hS.1).at_ (j := 2) rfl; have c0_3 := (hS.1).at_ (j := 3) rfl; have c0_4 := (hS.1).at_ (j := 4) rfl; clear hS; first | (go_simp; done) | (go_simp; with_reducible rfl))
                try simp only [Act.put, List.setIfInBounds_toArray, List.set_cons_zero, List.set_cons_succ]
                refine wpAnyH_take (i := 8) (oi := ⟨some 69, _, _, _, _, _⟩) (v := ?_) rfl (by kernel_rfl) (by kernel_rfl) (by kernel_rfl) (fun _ _ _ h => h) (Or.inl ⟨by kernel_rfl, ?_⟩) hHeld ?_
                rotate_left
                focus (intro W hS; have c0_0 := (hS.1).at_ (j := 0) rfl; have c0_1 := (hS.1).at_ (j := 1) rfl; have c0_2 := (hS.1).at_ (j := 2) rfl; have c0_3 := (hS.1).at_ (j := 3) rfl; have c0_4 := (hS.1).at_ (j := 4) rfl; clear hS; first | (go_simp; done) | (go_simp; with_reducible rfl))
                try simp only [Act.put, List.setIfInBounds_toArray, List.set_cons_zero, List.set_cons_succ]
                refine wpAnyH_take (i := 9) (oi := ⟨some 70, _, _, _, _, _⟩) (v := ?_) rfl (by kernel_rfl) (by kernel_rfl) (by kernel_rfl) (fun _ _ _ h => h) (Or.inl ⟨by kernel_rfl, ?_⟩) hHeld ?_
                rotate_left
                focus (intro W hS; have c0_0 := (hS.1).at_ (j := 0) rfl; have c0_1 := (hS.1).at_ (j := 1) rfl; have c0_2 := (hS.1).at_ (j := 2) rfl; have c0_3 := (hS.1).at_ (j := 3) rfl; have c0_4 := (hS.1).at_ (j := 4) rfl; clear hS; first | (go_simp; done) | (go_simp; with_reducible rfl))
                try simp only [Act.put, List.setIfInBounds_toArray, List.set_cons_zero, List.set_cons_succ]
                refine wpAnyH_ready (rs := [3, 5]) (by kernel_rfl) (by simp) ?_
                refine AllReadyH.cons (o := ⟨some 64, _, _, _, _, _⟩) rfl (fun K hK => ?_) ?_
                · skip
                  go_simp
                  refine Calls.mono (l5_base w3.heap.size (l.take n) _ n n 0 w.heap.size _ hHeld.2.size (by omega) (HT3.out.new hHeld.2)) ?_
                  rintro e x1 ⟨vK, rfl, GK, hb1⟩
                  refine hK.out _ _ ⟨hHeld.1.new hb1, below_trans hHeld.2 hb1 (Nat.le_refl _)⟩ (fun hHeld' => ?_)
                  clear hK K hHeld hb1
                  have hHeld := hHeld'
                  clear hHeld'
                  try simp only [Act.put, List.setIfInBounds_toArray, List.set_cons_zero, List.set_cons_succ]
                  refine wpAnyH_ready (rs := [5]) (by kernel_rfl) (by simp) ?_
                  refine AllReadyH.cons (o := ⟨some 66, _, _, _, _, _⟩) rfl (fun K hK => ?_) AllReadyH.nil
                  go_simp
                  have Gb5 := box_new (x1) 70 #[.int .i64 e.f1, .int .i64 e.f2, .int .i64 e.f3, .int .i64 e.f4, .int .i64 e.f5]
                  have hb1 := (Below.refl (x1).heap.size (x1)).alloc (Nat.le_refl _) (.cells #[.int .i64 e.f1, .int .i64 e.f2, .int .i64 e.f3, .int .i64 e.f4, .int .i64 e.f5] 70)
                  have Lb5 : w3.heap.size ≤ (x1).heap.size := by have := (hHeld.1).lt; have := (hHeld.2).size; omega
                  have M0b5 : wy.heap.size < (x1).heap.size := (hHeld.1).lt
                  replace GK := own_newer GK hb1
                  generalize (x1).alloc (.cells #[.int .i64 e.f1, .int .i64 e.f2, .int .i64 e.f3, .int .i64 e.f4, .int .i64 e.f5] 70) = x2 at hb1 Gb5 GK ⊢
                  generalize hg : (x1).heap.size = gb5 at Gb5 Lb5 M0b5 ⊢
                  clear hg
                  refine hK.out _ _ ⟨hHeld.1.new hb1, below_trans hHeld.2 hb1 (Nat.le_refl _)⟩ (fun hHeld' => ?_)
                  clear hK K hHeld hb1
                  have hHeld := hHeld'
                  clear hHeld'
                  try simp only [Act.put, List.setIfInBounds_toArray, List.set_cons_zero, List.set_cons_succ]
                  refine wpAnyH_ready (rs := [6]) (by kernel_rfl) (by simp) ?_
                  refine AllReadyH.cons (o := ⟨some 67, _, _, _, _, _⟩) rfl (fun K hK => ?_) AllReadyH.nil
                  refine step_appo rfl _ _ _ (by rfl) w3.heap.size 70 (.agg #[.int .i64 0, .int .i64 0, .int .i64 0, .int .i64 0, .int .i64 0]) 5 40 Tryz.underlying31 icNode rfl (by decide) vK (by rfl) (n) ((cNode (l.take n))) GK gb5 (gb5 + 1) (some ⟨gb5, 0, none⟩) 1 1 (#[.int .i64 e.f1, .int .i64 e.f2, .int .i64 e.f3, .int .i64 e.f4, .int .i64 e.f5] : Array Value).toList (by rfl) (rd_box5 Gb5 rfl) (one_node e) (by unfold maxLen; omega) (by omega) (by have := (hHeld.2).size; omega) ?_
                  intro Vp2 x3 hO hb0 hgr
                  have hsz0 := hb0.size
                  clear Gb5
                  have OWp2 := hO
                  have hb1 := hb0.mono (show w3.heap.size ≤ w3.heap.size by omega)
                  refine hK.out _ _ ⟨(by have := (hHeld.1).lt; exact hHeld.1.chg (chg_of_below hb0) (by omega)), (hHeld.2).trans hb1⟩ (fun hHeld' => ?_)
                  clear hK K hHeld hb1 hb0 hgr hO
                  have hHeld := hHeld'
                  clear hHeld'
                  try simp only [Act.put, List.setIfInBounds_toArray, List.set_cons_zero, List.set_cons_succ]
                  refine wpAnyH_ready (rs := [10]) (by kernel_rfl) (by simp) ?_
                  refine AllReadyH.cons (o := ⟨some 71, _, _, _, _, _⟩) rfl (fun K hK => ?_) AllReadyH.nil
                  refine step_appo rfl _ _ _ (by rfl) w3.heap.size 70 (.agg #[.int .i64 0, .int .i64 0, .int .i64 0, .int .i64 0, .int .i64 0]) 5 40 Tryz.underlying31 icNode rfl (by decide) Vp2 (by rfl) ((n + 1)) ((cNode (l.take n) ++ (#[.int .i64 e.f1, .int .i64 e.f2, .int .i64 e.f3, .int .i64 e.f4, .int .i64 e.f5] : Array Value).toList)) OWp2 0 0 _ 0 _ [] (by rfl) (Rd.empty) (fun u hu => by cases hu) (by unfold maxLen; omega) (by omega) (by have := (hHeld.2).size; omega) ?_
                  intro Vp3 x4 hO hb0 hgr
                  have hsz0 := hb0.size
                  have OWp3 := hO
                  have hb1 := hb0.mono (show w3.heap.size ≤ w3.heap.size by omega)
                  refine hK.out _ _ ⟨(by have := (hHeld.1).lt; exact hHeld.1.chg (chg_of_below hb0) (by omega)), (hHeld.2).trans hb1⟩ (fun hHeld' => ?_)
                  clear hK K hHeld hb1 hb0 hgr hO
                  have hHeld := hHeld'
                  clear hHeld'
                  try simp only [Act.put, List.setIfInBounds_toArray, List.set_cons_zero, List.set_cons_succ]
                  refine wpAnyH_take (i := 11) (oi := ⟨some 4, _, _, _, _, _⟩) (v := ?_) rfl (by kernel_rfl) (by kernel_rfl) (by kernel_rfl) (fun _ _ _ h => h) (Or.inl ⟨by kernel_rfl, ?_⟩) hHeld ?_
                  rotate_left
                  focus (intro W hS; have c0_0 := (hS.1).at_ (j := 0) rfl; have c0_1 := (hS.1).at_ (j := 1) rfl; have c0_2 := (hS.1).at_ (j := 2) rfl; have c0_3 := (hS.1).at_ (j := 3) rfl; have c0_4 := (hS.1).at_ (j := 4) rfl; clear hS; first | (go_simp; done) | (go_simp; with_reducible rfl))
                  try simp only [Act.put, List.setIfInBounds_toArray, List.set_cons_zero, List.set_cons_succ]
                  refine wpAnyH_take (i := 12) (oi := ⟨some 5, _, _, _, _, _⟩) (v := ?_) rfl (by kernel_rfl) (by kernel_rfl) (by kernel_rfl) (fun _ _ _ h => h) (Or.inl ⟨by kernel_rfl, ?_⟩) hHeld ?_
                  rotate_left
                  focus (intro W hS; have c0_0 := (hS.1).at_ (j := 0) rfl; have c0_1 := (hS.1).at_ (j := 1) rfl; have c0_2 := (hS.1).at_ (j := 2) rfl; have c0_3 := (hS.1).at_ (j := 3) rfl; have c0_4 := (hS.1).at_ (j := 4) rfl; clear hS; first | (go_simp; done) | (go_simp; with_reducible rfl))
                  try simp only [Act.put, List.setIfInBounds_toArray, List.set_cons_zero, List.set_cons_succ]
                  refine wpAnyH_done (by kernel_rfl) ?_ _
                  go_wp2_with fail
                  go_ret2
                  have hO := OWp3
                  have e2 : cNode (l.take n) ++ (#[.int .i64 e.f1, .int .i64 e.f2, .int .i64 e.f3, .int .i64 e.f4, .int .i64 e.f5] : Array Value).toList ++ [] = cNode (insAt l e) := by rw [HI.out]; rw [List.drop_eq_nil_of_le (by rw [HL.out]; omega)]; simp [cNode, TNode.cells, nAdd, List.flatMap_append]
                  rw [e2] at hO
                  rw [HE.out]
                  exact makesq_of_own HBx.out.size hO (by show _ = (insAt l e).length; rw [ins_len, HL.out]; try omega) (HBx.out.trans (hHeld.2.mono HBx.out.size))
                refine AllReadyH.cons (o := ⟨some 66, _, _, _, _, _⟩) rfl (fun K hK => ?_) ?_
                · skip
                  go_simp
                  have Gb5 := box_new (x0) 70 #[.int .i64 e.f1, .int .i64 e.f2, .int .i64 e.f3, .int .i64 e.f4, .int .i64 e.f5]
                  have hb1 := (Below.refl (x0).heap.size (x0)).alloc (Nat.le_refl _) (.cells #[.int .i64 e.f1, .int .i64 e.f2, .int .i64 e.f3, .int .i64 e.f4, .int .i64 e.f5] 70)
                  have Lb5 : w3.heap.size ≤ (x0).heap.size := by have := (hHeld.1).lt; have := (hHeld.2).size; omega
                  have M0b5 : wy.heap.size < (x0).heap.size := (hHeld.1).lt
                  generalize (x0).alloc (.cells #[.int .i64 e.f1, .int .i64 e.f2, .int .i64 e.f3, .int .i64 e.f4, .int .i64 e.f5] 70) = x1 at hb1 Gb5  ⊢
                  generalize hg : (x0).heap.size = gb5 at Gb5 Lb5 M0b5 ⊢
                  clear hg
                  refine hK.out _ _ ⟨hHeld.1.new hb1, below_trans hHeld.2 hb1 (Nat.le_refl _)⟩ (fun hHeld' => ?_)
                  clear hK K hHeld hb1
                  have hHeld := hHeld'
                  clear hHeld'
                  try simp only [Act.put, List.setIfInBounds_toArray, List.set_cons_zero, List.set_cons_succ]
                  refine wpAnyH_ready (rs := [3]) (by kernel_rfl) (by simp) ?_
                  refine AllReadyH.cons (o := ⟨some 64, _, _, _, _, _⟩) rfl (fun K hK => ?_) AllReadyH.nil
                  go_simp
                  refine Calls.mono (l5_base w3.heap.size (l.take n) _ n n 0 w.heap.size _ hHeld.2.size (by omega) (HT3.out.new hHeld.2)) ?_
                  rintro e x2 ⟨vK, rfl, GK, hb1⟩
                  replace Gb5 := Gb5.new hb1
                  refine hK.out _ _ ⟨hHeld.1.new hb1, below_trans hHeld.2 hb1 (Nat.le_refl _)⟩ (fun hHeld' => ?_)
                  clear hK K hHeld hb1
                  have hHeld := hHeld'
                  clear hHeld'
                  try simp only [Act.put, List.setIfInBounds_toArray, List.set_cons_zero, List.set_cons_succ]
                  refine wpAnyH_ready (rs := [6]) (by kernel_rfl) (by simp) ?_
                  refine AllReadyH.cons (o := ⟨some 67, _, _, _, _, _⟩) rfl (fun K hK => ?_) AllReadyH.nil
                  refine step_appo rfl _ _ _ (by rfl) w3.heap.size 70 (.agg #[.int .i64 0, .int .i64 0, .int .i64 0, .int .i64 0, .int .i64 0]) 5 40 Tryz.underlying31 icNode rfl (by decide) vK (by rfl) (n) ((cNode (l.take n))) GK gb5 (gb5 + 1) (some ⟨gb5, 0, none⟩) 1 1 (#[.int .i64 e.f1, .int .i64 e.f2, .int .i64 e.f3, .int .i64 e.f4, .int .i64 e.f5] : Array Value).toList (by rfl) (rd_box5 Gb5 rfl) (one_node e) (by unfold maxLen; omega) (by omega) (by have := (hHeld.2).size; omega) ?_
                  intro Vp2 x3 hO hb0 hgr
                  have hsz0 := hb0.size
                  clear Gb5
                  have OWp2 := hO
                  have hb1 := hb0.mono (show w3.heap.size ≤ w3.heap.size by omega)
                  refine hK.out _ _ ⟨(by have := (hHeld.1).lt; exact hHeld.1.chg (chg_of_below hb0) (by omega)), (hHeld.2).trans hb1⟩ (fun hHeld' => ?_)
                  clear hK K hHeld hb1 hb0 hgr hO
                  have hHeld := hHeld'
                  clear hHeld'
                  try simp only [Act.put, List.setIfInBounds_toArray, List.set_cons_zero, List.set_cons_succ]
                  refine wpAnyH_ready (rs := [10]) (by kernel_rfl) (by simp) ?_
                  refine AllReadyH.cons (o := ⟨some 71, _, _, _, _, _⟩) rfl (fun K hK => ?_) AllReadyH.nil
                  refine step_appo rfl _ _ _ (by rfl) w3.heap.size 70 (.agg #[.int .i64 0, .int .i64 0, .int .i64 0, .int .i64 0, .int .i64 0]) 5 40 Tryz.underlying31 icNode rfl (by decide) Vp2 (by rfl) ((n + 1)) ((cNode (l.take n) ++ (#[.int .i64 e.f1, .int .i64 e.f2, .int .i64 e.f3, .int .i64 e.f4, .int .i64 e.f5] : Array Value).toList)) OWp2 0 0 _ 0 _ [] (by rfl) (Rd.empty) (fun u hu => by cases hu) (by unfold maxLen; omega) (by omega) (by have := (hHeld.2).size; omega) ?_
                  intro Vp3 x4 hO hb0 hgr
                  have hsz0 := hb0.size
                  have OWp3 := hO
                  have hb1 := hb0.mono (show w3.heap.size ≤ w3.heap.size by omega)
                  refine hK.out _ _ ⟨(by have := (hHeld.1).lt; exact hHeld.1.chg (chg_of_below hb0) (by omega)), (hHeld.2).trans hb1⟩ (fun hHeld' => ?_)
                  clear hK K hHeld hb1 hb0 hgr hO
                  have hHeld := hHeld'
                  clear hHeld'
                  try simp only [Act.put, List.setIfInBounds_toArray, List.set_cons_zero, List.set_cons_succ]
                  refine wpAnyH_take (i := 11) (oi := ⟨some 4, _, _, _, _, _⟩) (v := ?_) rfl (by kernel_rfl) (by kernel_rfl) (by kernel_rfl) (fun _ _ _ h => h) (Or.inl ⟨by kernel_rfl, ?_⟩) hHeld ?_
                  rotate_left
                  focus (intro W hS; have c0_0 := (hS.1).at_ (j := 0) rfl; have c0_1 := (hS.1).at_ (j := 1) rfl; have c0_2 := (hS.1).at_ (j := 2) rfl; have c0_3 := (hS.1).at_ (j := 3) rfl; have c0_4 := (hS.1).at_ (j := 4) rfl; clear hS; first | (go_simp; done) | (go_simp; with_reducible rfl))
                  try simp only [Act.put, List.setIfInBounds_toArray, List.set_cons_zero, List.set_cons_succ]
                  refine wpAnyH_take (i := 12) (oi := ⟨some 5, _, _, _, _, _⟩) (v := ?_) rfl (by kernel_rfl) (by kernel_rfl) (by kernel_rfl) (fun _ _ _ h => h) (Or.inl ⟨by kernel_rfl, ?_⟩) hHeld ?_
                  rotate_left
                  focus (intro W hS; have c0_0 := (hS.1).at_ (j := 0) rfl; have c0_1 := (hS.1).at_ (j := 1) rfl; have c0_2 := (hS.1).at_ (j := 2) rfl; have c0_3 := (hS.1).at_ (j := 3) rfl; have c0_4 := (hS.1).at_ (j := 4) rfl; clear hS; first | (go_simp; done) | (go_simp; with_reducible rfl))
                  try simp only [Act.put, List.setIfInBounds_toArray, List.set_cons_zero, List.set_cons_succ]
                  refine wpAnyH_done (by kernel_rfl) ?_ _
                  go_wp2_with fail
                  go_ret2
                  have hO := OWp3
                  have e2 : cNode (l.take n) ++ (#[.int .i64 e.f1, .int .i64 e.f2, .int .i64 e.f3, .int .i64 e.f4, .int .i64 e.f5] : Array Value).toList ++ [] = cNode (insAt l e) := by rw [HI.out]; rw [List.drop_eq_nil_of_le (by rw [HL.out]; omega)]; simp [cNode, TNode.cells, nAdd, List.flatMap_append]
                  rw [e2] at hO
                  rw [HE.out]
                  exact makesq_of_own HBx.out.size hO (by show _ = (insAt l e).length; rw [ins_len, HL.out]; try omega) (HBx.out.trans (hHeld.2.mono HBx.out.size))
                exact AllReadyH.nil
              · skip
                go_wp2_with fail
                go_quiet (fail)
                have KBd := Lib.hid (show BoxAt (World.drewN wr nq) _ _ _ from KB.out)
                have HBd := Lib.hid (below_dN HB.out nq)
                clear k0 k1 k2 k3 k4 k5 hkl KB HB
                generalize World.drewN wr nq = wy at KBd HBd ⊢
                have KB := KBd
                have HB := HBd
                clear KBd HBd
                have k0 := KB.out.at_ (j := 0) rfl
                have k1 := KB.out.at_ (j := 1) rfl
                have k2 := KB.out.at_ (j := 2) rfl
                have k3 := KB.out.at_ (j := 3) rfl
                have k4 := KB.out.at_ (j := 4) rfl
                have k5 := KB.out.at_ (j := 5) rfl
                have hkl := KB.out.lt
                have KZ := box_new wy 70 #[.int .i64 0, .int .i64 0, .int .i64 0, .int .i64 0, .int .i64 0]
                have KX := Lib.hid (box_row (cs := #[.int .i64 e.f1, .int .i64 e.f2, .int .i64 e.f3, .int .i64 e.f4, .int .i64 e.f5]) KZ)
                have HBx := Lib.hid (below_setRow (HB.out.alloc HB.out.size (.cells #[.int .i64 0, .int .i64 0, .int .i64 0, .int .i64 0, .int .i64 0] 70)) HB.out.size #[.int .i64 e.f1, .int .i64 e.f2, .int .i64 e.f3, .int .i64 e.f4, .int .i64 e.f5])
                have HKZ := Lib.hid KZ
                have HS := HB.out.size
                clear KZ
                go_wp2_with (refine wpList_store_row rfl 70 _ _ rfl wy.heap.size #[.int .i64 e.f1, .int .i64 e.f2, .int .i64 e.f3, .int .i64 e.f4, .int .i64 e.f5] rfl rfl 70 _ HKZ.out (by kernel_rfl) (by kernel_rfl) (by kernel_rfl) ?_; generalize hW3 : World.setRow (wy.alloc (.cells #[.int .i64 0, .int .i64 0, .int .i64 0, .int .i64 0, .int .i64 0] 70)) wy.heap.size #[.int .i64 e.f1, .int .i64 e.f2, .int .i64 e.f3, .int .i64 e.f4, .int .i64 e.f5] = w3 at KX HBx ⊢)
                have HT3 := Lib.hid (rdN_take (HR0.out.below HBx.out (Nat.le_refl _)) (show n ≤ n by omega))
                have hx3 := KX.out.lt
                clear hW3 HKZ
                refine wp_region_held_drew (S := fun w' => BoxAt w' wy.heap.size 70 #[.int .i64 e.f1, .int .i64 e.f2, .int .i64 e.f3, .int .i64 e.f4, .int .i64 e.f5] ∧ Below w3.heap.size w3 w') (by kernel_rfl) ?_ (fun hHeld => ?_)
                · exact ⟨KX.out.drw, (Below.refl _ _).drew⟩
                generalize (World.drew _) = x0 at hHeld ⊢
                refine wpAnyH_take (i := 0) (oi := ⟨some 61, _, _, _, _, _⟩) (v := ?_) rfl (by kernel_rfl) (by kernel_rfl) (by kernel_rfl) (fun _ _ _ h => h) (Or.inl ⟨by kernel_rfl, ?_⟩) hHeld ?_
                rotate_left
                focus (intro W hS; have c0_0 := (hS.1).at_ (j := 0) rfl; have c0_1 := (hS.1).at_ (j := 1) rfl; have c0_2 := (hS.1).at_ (j := 2) rfl; have c0_3 := (hS.1).at_ (j := 3) rfl; have c0_4 := (hS.1).at_ (j := 4) rfl; clear hS; first | (go_simp; done) | (go_simp; with_reducible rfl))
                try simp only [Act.put, List.setIfInBounds_toArray, List.set_cons_zero, List.set_cons_succ]
                refine wpAnyH_take (i := 1) (oi := ⟨some 62, _, _, _, _, _⟩) (v := ?_) rfl (by kernel_rfl) (by kernel_rfl) (by kernel_rfl) (fun _ _ _ h => h) (Or.inl ⟨by kernel_rfl, ?_⟩) hHeld ?_
                rotate_left
                focus (intro W hS; have c0_0 := (hS.1).at_ (j := 0) rfl; have c0_1 := (hS.1).at_ (j := 1) rfl; have c0_2 := (hS.1).at_ (j := 2) rfl; have c0_3 := (hS.1).at_ (j := 3) rfl; have c0_4 := (hS.1).at_ (j := 4) rfl; clear hS; first | (go_simp; done) | (go_simp; with_reducible rfl))
                try simp only [Act.put, List.setIfInBounds_toArray, List.set_cons_zero, List.set_cons_succ]
                refine wpAnyH_take (i := 2) (oi := ⟨some 63, _, _, _, _, _⟩) (v := ?_) rfl (by kernel_rfl) (by kernel_rfl) (by kernel_rfl) (fun _ _ _ h => h) (Or.inl ⟨by kernel_rfl, ?_⟩) hHeld ?_
                rotate_left
                focus (intro W hS; have c0_0 := (hS.1).at_ (j := 0) rfl; have c0_1 := (hS.1).at_ (j := 1) rfl; have c0_2 := (hS.1).at_ (j := 2) rfl; have c0_3 := (hS.1).at_ (j := 3) rfl; have c0_4 := (hS.1).at_ (j := 4) rfl; clear hS; first | (go_simp; done) | (go_simp; with_reducible rfl))
                try simp only [Act.put, List.setIfInBounds_toArray, List.set_cons_zero, List.set_cons_succ]
                refine wpAnyH_take (i := 4) (oi := ⟨some 65, _, _, _, _, _⟩) (v := ?_) rfl (by kernel_rfl) (by kernel_rfl) (by kernel_rfl) (fun _ _ _ h => h) (Or.inl ⟨by kernel_rfl, ?_⟩) hHeld ?_
                rotate_left
                focus (intro W hS; have c0_0 := (hS.1).at_ (j := 0) rfl; have c0_1 := (hS.1).at_ (j := 1) rfl; have c0_2 := (hS.1).at_ (j := 2) rfl; have c0_3 := (hS.1).at_ (j := 3) rfl; have c0_4 := (hS.1).at_ (j := 4) rfl; clear hS; first | (go_simp; done) | (go_simp; with_reducible rfl))
                try simp only [Act.put, List.setIfInBounds_toArray, List.set_cons_zero, List.set_cons_succ]
                refine wpAnyH_take (i := 7) (oi := ⟨some 68, _, _, _, _, _⟩) (v := ?_) rfl (by kernel_rfl) (by kernel_rfl) (by kernel_rfl) (fun _ _ _ h => h) (Or.inl ⟨by kernel_rfl, ?_⟩) hHeld ?_
                rotate_left
                focus (intro W hS; have c0_0 := (hS.1).at_ (j := 0) rfl; have c0_1 := (hS.1).at_ (j := 1) rfl; have c0_2 := (hS.1).at_ (j := 2) rfl; have c0_3 := (hS.1).at_ (j := 3) rfl; have c0_4 := (hS.1).at_ (j := 4) rfl; clear hS; first | (go_simp; done) | (go_simp; with_reducible rfl))
                try simp only [Act.put, List.setIfInBounds_toArray, List.set_cons_zero, List.set_cons_succ]
                refine wpAnyH_take (i := 8) (oi := ⟨some 69, _, _, _, _, _⟩) (v := ?_) rfl (by kernel_rfl) (by kernel_rfl) (by kernel_rfl) (fun _ _ _ h => h) (Or.inl ⟨by kernel_rfl, ?_⟩) hHeld ?_
                rotate_left
                focus (intro W hS; have c0_0 := (hS.1).at_ (j := 0) rfl; have c0_1 := (hS.1).at_ (j := 1) rfl; have c0_2 := (hS.1).at_ (j := 2) rfl; have c0_3 := (hS.1).at_ (j := 3) rfl; have c0_4 := (hS.1).at_ (j := 4) rfl; clear hS; first | (go_simp; done) | (go_simp; with_reducible rfl))
                try simp only [Act.put, List.setIfInBounds_toArray, List.set_cons_zero, List.set_cons_succ]
                refine wpAnyH_take (i := 9) (oi := ⟨some 70, _, _, _, _, _⟩) (v := ?_) rfl (by kernel_rfl) (by kernel_rfl) (by kernel_rfl) (fun _ _ _ h => h) (Or.inl ⟨by kernel_rfl, ?_⟩) hHeld ?_
                rotate_left
                focus (intro W hS; have c0_0 := (hS.1).at_ (j := 0) rfl; have c0_1 := (hS.1).at_ (j := 1) rfl; have c0_2 := (hS.1).at_ (j := 2) rfl; have c0_3 := (hS.1).at_ (j := 3) rfl; have c0_4 := (hS.1).at_ (j := 4) rfl; clear hS; first | (go_simp; done) | (go_simp; with_reducible rfl))
                try simp only [Act.put, List.setIfInBounds_toArray, List.set_cons_zero, List.set_cons_succ]
                refine wpAnyH_ready (rs := [3, 5]) (by kernel_rfl) (by simp) ?_
                refine AllReadyH.cons (o := ⟨some 64, _, _, _, _, _⟩) rfl (fun K hK => ?_) ?_
                · skip
                  go_simp
                  refine Calls.mono (l5_base w3.heap.size (l.take n) _ n c 0 w.heap.size _ hHeld.2.size (by omega) (HT3.out.new hHeld.2)) ?_
                  rintro e x1 ⟨vK, rfl, GK, hb1⟩
                  refine hK.out _ _ ⟨hHeld.1.new hb1, below_trans hHeld.2 hb1 (Nat.le_refl _)⟩ (fun hHeld' => ?_)
                  clear hK K hHeld hb1
                  have hHeld := hHeld'
                  clear hHeld'
                  try simp only [Act.put, List.setIfInBounds_toArray, List.set_cons_zero, List.set_cons_succ]
                  refine wpAnyH_ready (rs := [5]) (by kernel_rfl) (by simp) ?_
                  refine AllReadyH.cons (o := ⟨some 66, _, _, _, _, _⟩) rfl (fun K hK => ?_) AllReadyH.nil
                  go_simp
                  have Gb5 := box_new (x1) 70 #[.int .i64 e.f1, .int .i64 e.f2, .int .i64 e.f3, .int .i64 e.f4, .int .i64 e.f5]
                  have hb1 := (Below.refl (x1).heap.size (x1)).alloc (Nat.le_refl _) (.cells #[.int .i64 e.f1, .int .i64 e.f2, .int .i64 e.f3, .int .i64 e.f4, .int .i64 e.f5] 70)
                  have Lb5 : w3.heap.size ≤ (x1).heap.size := by have := (hHeld.1).lt; have := (hHeld.2).size; omega
                  have M0b5 : wy.heap.size < (x1).heap.size := (hHeld.1).lt
                  replace GK := own_newer GK hb1
                  generalize (x1).alloc (.cells #[.int .i64 e.f1, .int .i64 e.f2, .int .i64 e.f3, .int .i64 e.f4, .int .i64 e.f5] 70) = x2 at hb1 Gb5 GK ⊢
                  generalize hg : (x1).heap.size = gb5 at Gb5 Lb5 M0b5 ⊢
                  clear hg
                  refine hK.out _ _ ⟨hHeld.1.new hb1, below_trans hHeld.2 hb1 (Nat.le_refl _)⟩ (fun hHeld' => ?_)
                  clear hK K hHeld hb1
                  have hHeld := hHeld'
                  clear hHeld'
                  try simp only [Act.put, List.setIfInBounds_toArray, List.set_cons_zero, List.set_cons_succ]
                  refine wpAnyH_ready (rs := [6]) (by kernel_rfl) (by simp) ?_
                  refine AllReadyH.cons (o := ⟨some 67, _, _, _, _, _⟩) rfl (fun K hK => ?_) AllReadyH.nil
                  refine step_appo rfl _ _ _ (by rfl) w3.heap.size 70 (.agg #[.int .i64 0, .int .i64 0, .int .i64 0, .int .i64 0, .int .i64 0]) 5 40 Tryz.underlying31 icNode rfl (by decide) vK (by rfl) (n) ((cNode (l.take n))) GK gb5 (gb5 + 1) (some ⟨gb5, 0, none⟩) 1 1 (#[.int .i64 e.f1, .int .i64 e.f2, .int .i64 e.f3, .int .i64 e.f4, .int .i64 e.f5] : Array Value).toList (by rfl) (rd_box5 Gb5 rfl) (one_node e) (by unfold maxLen; omega) (by omega) (by have := (hHeld.2).size; omega) ?_
                  intro Vp2 x3 hO hb0 hgr
                  have hsz0 := hb0.size
                  clear Gb5
                  have OWp2 := hO
                  have hb1 := hb0.mono (show w3.heap.size ≤ w3.heap.size by omega)
                  refine hK.out _ _ ⟨(by have := (hHeld.1).lt; exact hHeld.1.chg (chg_of_below hb0) (by omega)), (hHeld.2).trans hb1⟩ (fun hHeld' => ?_)
                  clear hK K hHeld hb1 hb0 hgr hO
                  have hHeld := hHeld'
                  clear hHeld'
                  try simp only [Act.put, List.setIfInBounds_toArray, List.set_cons_zero, List.set_cons_succ]
                  refine wpAnyH_ready (rs := [10]) (by kernel_rfl) (by simp) ?_
                  refine AllReadyH.cons (o := ⟨some 71, _, _, _, _, _⟩) rfl (fun K hK => ?_) AllReadyH.nil
                  refine step_appo rfl _ _ _ (by rfl) w3.heap.size 70 (.agg #[.int .i64 0, .int .i64 0, .int .i64 0, .int .i64 0, .int .i64 0]) 5 40 Tryz.underlying31 icNode rfl (by decide) Vp2 (by rfl) ((n + 1)) ((cNode (l.take n) ++ (#[.int .i64 e.f1, .int .i64 e.f2, .int .i64 e.f3, .int .i64 e.f4, .int .i64 e.f5] : Array Value).toList)) OWp2 0 0 _ 0 _ [] (by rfl) (Rd.empty) (fun u hu => by cases hu) (by unfold maxLen; omega) (by omega) (by have := (hHeld.2).size; omega) ?_
                  intro Vp3 x4 hO hb0 hgr
                  have hsz0 := hb0.size
                  have OWp3 := hO
                  have hb1 := hb0.mono (show w3.heap.size ≤ w3.heap.size by omega)
                  refine hK.out _ _ ⟨(by have := (hHeld.1).lt; exact hHeld.1.chg (chg_of_below hb0) (by omega)), (hHeld.2).trans hb1⟩ (fun hHeld' => ?_)
                  clear hK K hHeld hb1 hb0 hgr hO
                  have hHeld := hHeld'
                  clear hHeld'
                  try simp only [Act.put, List.setIfInBounds_toArray, List.set_cons_zero, List.set_cons_succ]
                  refine wpAnyH_take (i := 11) (oi := ⟨some 4, _, _, _, _, _⟩) (v := ?_) rfl (by kernel_rfl) (by kernel_rfl) (by kernel_rfl) (fun _ _ _ h => h) (Or.inl ⟨by kernel_rfl, ?_⟩) hHeld ?_
                  rotate_left
                  focus (intro W hS; have c0_0 := (hS.1).at_ (j := 0) rfl; have c0_1 := (hS.1).at_ (j := 1) rfl; have c0_2 := (hS.1).at_ (j := 2) rfl; have c0_3 := (hS.1).at_ (j := 3) rfl; have c0_4 := (hS.1).at_ (j := 4) rfl; clear hS; first | (go_simp; done) | (go_simp; with_reducible rfl))
                  try simp only [Act.put, List.setIfInBounds_toArray, List.set_cons_zero, List.set_cons_succ]
                  refine wpAnyH_take (i := 12) (oi := ⟨some 5, _, _, _, _, _⟩) (v := ?_) rfl (by kernel_rfl) (by kernel_rfl) (by kernel_rfl) (fun _ _ _ h => h) (Or.inl ⟨by kernel_rfl, ?_⟩) hHeld ?_
                  rotate_left
                  focus (intro W hS; have c0_0 := (hS.1).at_ (j := 0) rfl; have c0_1 := (hS.1).at_ (j := 1) rfl; have c0_2 := (hS.1).at_ (j := 2) rfl; have c0_3 := (hS.1).at_ (j := 3) rfl; have c0_4 := (hS.1).at_ (j := 4) rfl; clear hS; first | (go_simp; done) | (go_simp; with_reducible rfl))
                  try simp only [Act.put, List.setIfInBounds_toArray, List.set_cons_zero, List.set_cons_succ]
                  refine wpAnyH_done (by kernel_rfl) ?_ _
                  go_wp2_with fail
                  go_ret2
                  have hO := OWp3
                  have e2 : cNode (l.take n) ++ (#[.int .i64 e.f1, .int .i64 e.f2, .int .i64 e.f3, .int .i64 e.f4, .int .i64 e.f5] : Array Value).toList ++ [] = cNode (insAt l e) := by rw [HI.out]; rw [List.drop_eq_nil_of_le (by rw [HL.out]; omega)]; simp [cNode, TNode.cells, nAdd, List.flatMap_append]
                  rw [e2] at hO
                  rw [HE.out]
                  exact makesq_of_own HBx.out.size hO (by show _ = (insAt l e).length; rw [ins_len, HL.out]; try omega) (HBx.out.trans (hHeld.2.mono HBx.out.size))
                refine AllReadyH.cons (o := ⟨some 66, _, _, _, _, _⟩) rfl (fun K hK => ?_) ?_
                · skip
                  go_simp
                  have Gb5 := box_new (x0) 70 #[.int .i64 e.f1, .int .i64 e.f2, .int .i64 e.f3, .int .i64 e.f4, .int .i64 e.f5]
                  have hb1 := (Below.refl (x0).heap.size (x0)).alloc (Nat.le_refl _) (.cells #[.int .i64 e.f1, .int .i64 e.f2, .int .i64 e.f3, .int .i64 e.f4, .int .i64 e.f5] 70)
                  have Lb5 : w3.heap.size ≤ (x0).heap.size := by have := (hHeld.1).lt; have := (hHeld.2).size; omega
                  have M0b5 : wy.heap.size < (x0).heap.size := (hHeld.1).lt
                  generalize (x0).alloc (.cells #[.int .i64 e.f1, .int .i64 e.f2, .int .i64 e.f3, .int .i64 e.f4, .int .i64 e.f5] 70) = x1 at hb1 Gb5  ⊢
                  generalize hg : (x0).heap.size = gb5 at Gb5 Lb5 M0b5 ⊢
                  clear hg
                  refine hK.out _ _ ⟨hHeld.1.new hb1, below_trans hHeld.2 hb1 (Nat.le_refl _)⟩ (fun hHeld' => ?_)
                  clear hK K hHeld hb1
                  have hHeld := hHeld'
                  clear hHeld'
                  try simp only [Act.put, List.setIfInBounds_toArray, List.set_cons_zero, List.set_cons_succ]
                  refine wpAnyH_ready (rs := [3]) (by kernel_rfl) (by simp) ?_
                  refine AllReadyH.cons (o := ⟨some 64, _, _, _, _, _⟩) rfl (fun K hK => ?_) AllReadyH.nil
                  go_simp
                  refine Calls.mono (l5_base w3.heap.size (l.take n) _ n c 0 w.heap.size _ hHeld.2.size (by omega) (HT3.out.new hHeld.2)) ?_
                  rintro e x2 ⟨vK, rfl, GK, hb1⟩
                  replace Gb5 := Gb5.new hb1
                  refine hK.out _ _ ⟨hHeld.1.new hb1, below_trans hHeld.2 hb1 (Nat.le_refl _)⟩ (fun hHeld' => ?_)
                  clear hK K hHeld hb1
                  have hHeld := hHeld'
                  clear hHeld'
                  try simp only [Act.put, List.setIfInBounds_toArray, List.set_cons_zero, List.set_cons_succ]
                  refine wpAnyH_ready (rs := [6]) (by kernel_rfl) (by simp) ?_
                  refine AllReadyH.cons (o := ⟨some 67, _, _, _, _, _⟩) rfl (fun K hK => ?_) AllReadyH.nil
                  refine step_appo rfl _ _ _ (by rfl) w3.heap.size 70 (.agg #[.int .i64 0, .int .i64 0, .int .i64 0, .int .i64 0, .int .i64 0]) 5 40 Tryz.underlying31 icNode rfl (by decide) vK (by rfl) (n) ((cNode (l.take n))) GK gb5 (gb5 + 1) (some ⟨gb5, 0, none⟩) 1 1 (#[.int .i64 e.f1, .int .i64 e.f2, .int .i64 e.f3, .int .i64 e.f4, .int .i64 e.f5] : Array Value).toList (by rfl) (rd_box5 Gb5 rfl) (one_node e) (by unfold maxLen; omega) (by omega) (by have := (hHeld.2).size; omega) ?_
                  intro Vp2 x3 hO hb0 hgr
                  have hsz0 := hb0.size
                  clear Gb5
                  have OWp2 := hO
                  have hb1 := hb0.mono (show w3.heap.size ≤ w3.heap.size by omega)
                  refine hK.out _ _ ⟨(by have := (hHeld.1).lt; exact hHeld.1.chg (chg_of_below hb0) (by omega)), (hHeld.2).trans hb1⟩ (fun hHeld' => ?_)
                  clear hK K hHeld hb1 hb0 hgr hO
                  have hHeld := hHeld'
                  clear hHeld'
                  try simp only [Act.put, List.setIfInBounds_toArray, List.set_cons_zero, List.set_cons_succ]
                  refine wpAnyH_ready (rs := [10]) (by kernel_rfl) (by simp) ?_
                  refine AllReadyH.cons (o := ⟨some 71, _, _, _, _, _⟩) rfl (fun K hK => ?_) AllReadyH.nil
                  refine step_appo rfl _ _ _ (by rfl) w3.heap.size 70 (.agg #[.int .i64 0, .int .i64 0, .int .i64 0, .int .i64 0, .int .i64 0]) 5 40 Tryz.underlying31 icNode rfl (by decide) Vp2 (by rfl) ((n + 1)) ((cNode (l.take n) ++ (#[.int .i64 e.f1, .int .i64 e.f2, .int .i64 e.f3, .int .i64 e.f4, .int .i64 e.f5] : Array Value).toList)) OWp2 0 0 _ 0 _ [] (by rfl) (Rd.empty) (fun u hu => by cases hu) (by unfold maxLen; omega) (by omega) (by have := (hHeld.2).size; omega) ?_
                  intro Vp3 x4 hO hb0 hgr
                  have hsz0 := hb0.size
                  have OWp3 := hO
                  have hb1 := hb0.mono (show w3.heap.size ≤ w3.heap.size by omega)
                  refine hK.out _ _ ⟨(by have := (hHeld.1).lt; exact hHeld.1.chg (chg_of_below hb0) (by omega)), (hHeld.2).trans hb1⟩ (fun hHeld' => ?_)
                  clear hK K hHeld hb1 hb0 hgr hO
                  have hHeld := hHeld'
                  clear hHeld'
                  try simp only [Act.put, List.setIfInBounds_toArray, List.set_cons_zero, List.set_cons_succ]
                  refine wpAnyH_take (i := 11) (oi := ⟨some 4, _, _, _, _, _⟩) (v := ?_) rfl (by kernel_rfl) (by kernel_rfl) (by kernel_rfl) (fun _ _ _ h => h) (Or.inl ⟨by kernel_rfl, ?_⟩) hHeld ?_
                  rotate_left
                  focus (intro W hS; have c0_0 := (hS.1).at_ (j := 0) rfl; have c0_1 := (hS.1).at_ (j := 1) rfl; have c0_2 := (hS.1).at_ (j := 2) rfl; have c0_3 := (hS.1).at_ (j := 3) rfl; have c0_4 := (hS.1).at_ (j := 4) rfl; clear hS; first | (go_simp; done) | (go_simp; with_reducible rfl))
                  try simp only [Act.put, List.setIfInBounds_toArray, List.set_cons_zero, List.set_cons_succ]
                  refine wpAnyH_take (i := 12) (oi := ⟨some 5, _, _, _, _, _⟩) (v := ?_) rfl (by kernel_rfl) (by kernel_rfl) (by kernel_rfl) (fun _ _ _ h => h) (Or.inl ⟨by kernel_rfl, ?_⟩) hHeld ?_
                  rotate_left
                  focus (intro W hS; have c0_0 := (hS.1).at_ (j := 0) rfl; have c0_1 := (hS.1).at_ (j := 1) rfl; have c0_2 := (hS.1).at_ (j := 2) rfl; have c0_3 := (hS.1).at_ (j := 3) rfl; have c0_4 := (hS.1).at_ (j := 4) rfl; clear hS; first | (go_simp; done) | (go_simp; with_reducible rfl))
                  try simp only [Act.put, List.setIfInBounds_toArray, List.set_cons_zero, List.set_cons_succ]
                  refine wpAnyH_done (by kernel_rfl) ?_ _
                  go_wp2_with fail
                  go_ret2
                  have hO := OWp3
                  have e2 : cNode (l.take n) ++ (#[.int .i64 e.f1, .int .i64 e.f2, .int .i64 e.f3, .int .i64 e.f4, .int .i64 e.f5] : Array Value).toList ++ [] = cNode (insAt l e) := by rw [HI.out]; rw [List.drop_eq_nil_of_le (by rw [HL.out]; omega)]; simp [cNode, TNode.cells, nAdd, List.flatMap_append]
                  rw [e2] at hO
                  rw [HE.out]
                  exact makesq_of_own HBx.out.size hO (by show _ = (insAt l e).length; rw [ins_len, HL.out]; try omega) (HBx.out.trans (hHeld.2.mono HBx.out.size))
                exact AllReadyH.nil
end Go.Proofs.YtjgcgipglmhgeaaGreat
namespace Go.Proofs.YtjgcgipglmhgeaaGreat
open Go Go.ChangeShapes Go.WideShapes Go.ChangeAt Go.RowKit Go.Lib
set_option linter.unusedVariables false
set_option linter.unusedSimpArgs false
set_option maxRecDepth 100000

theorem icEdit : (Tryz.prog.info? 157).map (fun i => (i.zero, i.size, i.bytes)) = some (some (.agg #[.int .i64 0, .int .i64 0, .int .i64 0, .int .i64 0, .int .i64 0, .int .i64 0]), 6, 48) := by kernel_rfl
theorem ocEdit (l : List TEdit) : ∀ u ∈ cEdit l, u.oneCell' = true := by
  intro u hu
  obtain ⟨x, _, hx⟩ := List.mem_flatMap.1 hu
  simp only [TEdit.cells, List.mem_cons, List.not_mem_nil, or_false] at hx
  rcases hx with rfl | rfl | rfl | rfl | rfl | rfl <;> rfl
end Go.Proofs.YtjgcgipglmhgeaaGreat
namespace Go.Proofs.YtjgcgipglmhgeaaGreat
open Go Go.ChangeShapes Go.WideShapes Go.ChangeAt Go.RowKit Go.Lib
set_option linter.unusedVariables false
set_option linter.unusedSimpArgs false
set_option maxRecDepth 100000

theorem makesq_none {l : List TNode} {r : Option (List TNode)} (h : r = none) {w : World} {e : Ending} {w' : World} (hm : MakesQ l false w e w') : MakesQ (r.getD l) r.isSome w e w' := by subst h; exact hm
theorem makesq_some {l m : List TNode} {r : Option (List TNode)} (h : r = some m) {w : World} {e : Ending} {w' : World} (hm : MakesQ m true w e w') : MakesQ (r.getD l) r.isSome w e w' := by subst h; exact hm
set_option maxHeartbeats 16000000 in
theorem spec_apply_no (e : TEdit) (l : List TNode) (A : Option Addr) (n c lo hi : Nat) (w : World) (hn : n ≤ 1048576) (hr : Rd w lo hi 5 A n (cNode l)) (hcap : n ≤ c) (hok : Hid (cNodeOk l)) (he : Hid (TEdit.fit e)) (hno : (mIsDoc l && mIsEdit e) = false) :
    Calls Tryz.prog 85 #[.slice A n c, .agg #[.int .i64 e.f0, .int .i64 e.f1, .int .i64 e.f2, .int .i64 e.f3, .int .i64 e.f4, .int .i64 e.f5]] w (MakesQ ((mEdited l e).getD l) (mEdited l e).isSome w) := by
  have HL := Lib.hid (rd_len TNode.len hr (by decide))
  have HR0 := Lib.hid (hr.old (by decide))
  have HC := Lib.hid hcap
  have KB0 := Lib.hid (box_new w 157 #[.int .i64 e.f0, .int .i64 e.f1, .int .i64 e.f2, .int .i64 e.f3, .int .i64 e.f4, .int .i64 e.f5])
  have HB0 := Lib.hid ((Below.refl w.heap.size w).alloc (Nat.le_refl _) (.cells #[.int .i64 e.f0, .int .i64 e.f1, .int .i64 e.f2, .int .i64 e.f3, .int .i64 e.f4, .int .i64 e.f5] 157))
  clear hr hcap
  have HE := Lib.hid (show mEdited l e = none by unfold mEdited; rw [if_neg (by rw [hno]; decide)])
  have C2 := Lib.hid (fun W => spec_IsEdit e W he)
  by_cases hd : mIsDoc l = true
  · have hi2 : mIsEdit e = false := by rw [hd, Bool.true_and] at hno; exact hno
    clear hno
    go_enter Tryz.func85, Tryz.ntmps85
    go_wp2_with fail
    refine (spec_IsDocument' l A n c 0 w.heap.size _ (by omega) HC.out (HR0.out.alloc _)).mono ?_
    rintro e1 w1 ⟨rfl, hb⟩
    rw [hd]
    have HB1 := Lib.hid (below_trans HB0.out hb (by simp))
    have KB1 := Lib.hid (KB0.out.new hb)
    have k0 := KB1.out.at_ (j := 0) rfl
    have k1 := KB1.out.at_ (j := 1) rfl
    have k2 := KB1.out.at_ (j := 2) rfl
    have k3 := KB1.out.at_ (j := 3) rfl
    have k4 := KB1.out.at_ (j := 4) rfl
    have k5 := KB1.out.at_ (j := 5) rfl
    clear hb
    go_wp2_with fail
    refine (C2.out _).mono ?_
    rintro e2 w2 ⟨rfl, hb⟩
    rw [hi2]
    have HB2 := Lib.hid (below_trans HB1.out hb (Nat.le_refl _))
    have KB2 := Lib.hid (KB1.out.new hb)
    clear k0 k1 k2 k3 k4 k5
    have k0 := KB2.out.at_ (j := 0) rfl
    have k1 := KB2.out.at_ (j := 1) rfl
    have k2 := KB2.out.at_ (j := 2) rfl
    have k3 := KB2.out.at_ (j := 3) rfl
    have k4 := KB2.out.at_ (j := 4) rfl
    have k5 := KB2.out.at_ (j := 5) rfl
    clear hb
    go_wp2_with fail
    refine (l5_copy l A n c 0 w.heap.size _ hn (HR0.out.below HB2.out (Nat.le_refl _))).mono ?_
    rintro e3 w3 ⟨v, rfl, ho, hb⟩
    have HO := Lib.hid ho
    have HB3 := Lib.hid (below_trans HB2.out hb (Nat.le_refl _))
    have hs3 := HB2.out.size
    clear ho hb
    go_wp2_with fail
    go_ret2
    exact makesq_none HE.out (makesq_of_own hs3 HO.out HL.out.symm HB3.out)
  · have hd : mIsDoc l = false := by simpa using hd
    clear hno
    go_enter Tryz.func85, Tryz.ntmps85
    go_wp2_with fail
    refine (spec_IsDocument' l A n c 0 w.heap.size _ (by omega) HC.out (HR0.out.alloc _)).mono ?_
    rintro e1 w1 ⟨rfl, hb⟩
    rw [hd]
    have HB1 := Lib.hid (below_trans HB0.out hb (by simp))
    have KB1 := Lib.hid (KB0.out.new hb)
    have k0 := KB1.out.at_ (j := 0) rfl
    have k1 := KB1.out.at_ (j := 1) rfl
    have k2 := KB1.out.at_ (j := 2) rfl
    have k3 := KB1.out.at_ (j := 3) rfl
    have k4 := KB1.out.at_ (j := 4) rfl
    have k5 := KB1.out.at_ (j := 5) rfl
    clear hb
    go_wp2_with fail
    refine (l5_copy l A n c 0 w.heap.size _ hn (HR0.out.below HB1.out (Nat.le_refl _))).mono ?_
    rintro e3 w3 ⟨v, rfl, ho, hb⟩
    have HO := Lib.hid ho
    have HB3 := Lib.hid (below_trans HB1.out hb (Nat.le_refl _))
    have hs3 := HB1.out.size
    clear ho hb
    go_wp2_with fail
    go_ret2
    exact makesq_none HE.out (makesq_of_own hs3 HO.out HL.out.symm HB3.out)
set_option maxHeartbeats 16000000 in
theorem spec_apply_add (a1 a2 a3 a4 a5 : Int) (l : List TNode) (A : Option Addr) (n c lo hi : Nat) (w : World) (hn : n ≤ 1048576) (hr : Rd w lo hi 5 A n (cNode l)) (hcap : n ≤ c) (hok : Hid (cNodeOk l)) (he : Hid (TEdit.fit (⟨1, a1, a2, a3, a4, a5⟩ : TEdit))) (hdoc : mIsDoc l = true) (hed : mIsEdit (⟨1, a1, a2, a3, a4, a5⟩ : TEdit) = true) :
    Calls Tryz.prog 85 #[.slice A n c, .agg #[.int .i64 1, .int .i64 a1, .int .i64 a2, .int .i64 a3, .int .i64 a4, .int .i64 a5]] w (MakesQ ((mAdd l (⟨1, a1, a2, a3, a4, a5⟩ : TEdit)).getD l) (mAdd l (⟨1, a1, a2, a3, a4, a5⟩ : TEdit)).isSome w) := by
  have HL := Lib.hid (rd_len TNode.len hr (by decide))
  have HR0 := Lib.hid (hr.old (by decide))
  have HC := Lib.hid hcap
  have KB0 := Lib.hid (box_new w 157 #[.int .i64 1, .int .i64 a1, .int .i64 a2, .int .i64 a3, .int .i64 a4, .int .i64 a5])
  have HB0 := Lib.hid ((Below.refl w.heap.size w).alloc (Nat.le_refl _) (.cells #[.int .i64 1, .int .i64 a1, .int .i64 a2, .int .i64 a3, .int .i64 a4, .int .i64 a5] 157))
  clear hr hcap
  have C2 : Hid (∀ W, Calls Tryz.prog 114 #[.agg #[.int .i64 1, .int .i64 a1, .int .i64 a2, .int .i64 a3, .int .i64 a4, .int .i64 a5]] W (Says (.bool true) W)) := Lib.hid (fun W => hed ▸ spec_IsEdit (⟨1, a1, a2, a3, a4, a5⟩ : TEdit) W he)
  clear hed
  go_enter Tryz.func85, Tryz.ntmps85
  go_wp2_with fail
  refine (spec_IsDocument' l A n c 0 w.heap.size _ (by omega) HC.out (HR0.out.alloc _)).mono ?_
  rintro e1 w1 ⟨rfl, hb⟩
  rw [hdoc]
  have HB1 := Lib.hid (below_trans HB0.out hb (by simp))
  have KB1 := Lib.hid (KB0.out.new hb)
  have k0 := KB1.out.at_ (j := 0) rfl
  have k1 := KB1.out.at_ (j := 1) rfl
  have k2 := KB1.out.at_ (j := 2) rfl
  have k3 := KB1.out.at_ (j := 3) rfl
  have k4 := KB1.out.at_ (j := 4) rfl
  have k5 := KB1.out.at_ (j := 5) rfl
  clear hb
  go_wp2_with fail
  refine (C2.out _).mono ?_
  rintro e2 w2 ⟨rfl, hb⟩
  have HB2 := Lib.hid (below_trans HB1.out hb (Nat.le_refl _))
  have KB2 := Lib.hid (KB1.out.new hb)
  clear k0 k1 k2 k3 k4 k5
  have k0 := KB2.out.at_ (j := 0) rfl
  have k1 := KB2.out.at_ (j := 1) rfl
  have k2 := KB2.out.at_ (j := 2) rfl
  have k3 := KB2.out.at_ (j := 3) rfl
  have k4 := KB2.out.at_ (j := 4) rfl
  have k5 := KB2.out.at_ (j := 5) rfl
  clear hb
  go_wp2_with fail
  refine (spec_NodeOf' l A n c 0 w.heap.size a1 _ (by omega) (HR0.out.below HB2.out (Nat.le_refl _))).mono ?_
  rintro e3 w3 ⟨rfl, rfl⟩
  go_wp2_with fail
  refine (l5_copy l A n c 0 w.heap.size _ hn (HR0.out.below HB2.out (Nat.le_refl _))).mono ?_
  rintro e4 w4 ⟨v4, rfl, ho, hb⟩
  have HO4 := Lib.hid ho
  have HB4 := Lib.hid (below_trans HB2.out hb (Nat.le_refl _))
  have KB4 := Lib.hid (KB2.out.new hb)
  have hs4 := HB2.out.size
  clear ho hb k0 k1 k2 k3 k4 k5
  have k0 := KB4.out.at_ (j := 0) rfl
  have k1 := KB4.out.at_ (j := 1) rfl
  have k2 := KB4.out.at_ (j := 2) rfl
  have k3 := KB4.out.at_ (j := 3) rfl
  have k4 := KB4.out.at_ (j := 4) rfl
  have k5 := KB4.out.at_ (j := 5) rfl
  go_wp2_with fail
  refine (spec_l5Add (⟨1, a1, a2, a3, a4, a5⟩ : TEdit) l A n c 0 w.heap.size _ hn (HR0.out.below HB4.out (Nat.le_refl _)) HC.out hdoc).mono ?_
  rintro e5 w5 ⟨A5, c5, rfl, hF5, hb5⟩
  have HF5 := Lib.hid (hF5.mono (lo' := w.heap.size) HB4.out.size (Nat.le_refl _))
  have HB5 := Lib.hid (below_trans HB4.out hb5 (Nat.le_refl _))
  clear hF5 hb5
  go_wp2_with fail
  go_ret2
  exact ⟨A5, c5, rfl, HF5.out, HB5.out⟩
set_option maxHeartbeats 16000000 in
theorem spec_apply_drop (a1 a2 a3 a4 a5 : Int) (l : List TNode) (A : Option Addr) (n c lo hi : Nat) (w : World) (hn : n ≤ 1048576) (hr : Rd w lo hi 5 A n (cNode l)) (hcap : n ≤ c) (hok : Hid (cNodeOk l)) (he : Hid (TEdit.fit (⟨2, a1, a2, a3, a4, a5⟩ : TEdit))) (hdoc : mIsDoc l = true) (hed : mIsEdit (⟨2, a1, a2, a3, a4, a5⟩ : TEdit) = true) :
    Calls Tryz.prog 85 #[.slice A n c, .agg #[.int .i64 2, .int .i64 a1, .int .i64 a2, .int .i64 a3, .int .i64 a4, .int .i64 a5]] w (MakesQ ((mDrop l a1).getD l) (mDrop l a1).isSome w) := by
  have HL := Lib.hid (rd_len TNode.len hr (by decide))
  have HR0 := Lib.hid (hr.old (by decide))
  have HC := Lib.hid hcap
  have KB0 := Lib.hid (box_new w 157 #[.int .i64 2, .int .i64 a1, .int .i64 a2, .int .i64 a3, .int .i64 a4, .int .i64 a5])
  have HB0 := Lib.hid ((Below.refl w.heap.size w).alloc (Nat.le_refl _) (.cells #[.int .i64 2, .int .i64 a1, .int .i64 a2, .int .i64 a3, .int .i64 a4, .int .i64 a5] 157))
  clear hr hcap
  have C2 : Hid (∀ W, Calls Tryz.prog 114 #[.agg #[.int .i64 2, .int .i64 a1, .int .i64 a2, .int .i64 a3, .int .i64 a4, .int .i64 a5]] W (Says (.bool true) W)) := Lib.hid (fun W => hed ▸ spec_IsEdit (⟨2, a1, a2, a3, a4, a5⟩ : TEdit) W he)
  clear hed
  go_enter Tryz.func85, Tryz.ntmps85
  go_wp2_with fail
  refine (spec_IsDocument' l A n c 0 w.heap.size _ (by omega) HC.out (HR0.out.alloc _)).mono ?_
  rintro e1 w1 ⟨rfl, hb⟩
  rw [hdoc]
  have HB1 := Lib.hid (below_trans HB0.out hb (by simp))
  have KB1 := Lib.hid (KB0.out.new hb)
  have k0 := KB1.out.at_ (j := 0) rfl
  have k1 := KB1.out.at_ (j := 1) rfl
  have k2 := KB1.out.at_ (j := 2) rfl
  have k3 := KB1.out.at_ (j := 3) rfl
  have k4 := KB1.out.at_ (j := 4) rfl
  have k5 := KB1.out.at_ (j := 5) rfl
  clear hb
  go_wp2_with fail
  refine (C2.out _).mono ?_
  rintro e2 w2 ⟨rfl, hb⟩
  have HB2 := Lib.hid (below_trans HB1.out hb (Nat.le_refl _))
  have KB2 := Lib.hid (KB1.out.new hb)
  clear k0 k1 k2 k3 k4 k5
  have k0 := KB2.out.at_ (j := 0) rfl
  have k1 := KB2.out.at_ (j := 1) rfl
  have k2 := KB2.out.at_ (j := 2) rfl
  have k3 := KB2.out.at_ (j := 3) rfl
  have k4 := KB2.out.at_ (j := 4) rfl
  have k5 := KB2.out.at_ (j := 5) rfl
  clear hb
  go_wp2_with fail
  refine (spec_NodeOf' l A n c 0 w.heap.size a1 _ (by omega) (HR0.out.below HB2.out (Nat.le_refl _))).mono ?_
  rintro e3 w3 ⟨rfl, rfl⟩
  go_wp2_with fail
  refine (l5_copy l A n c 0 w.heap.size _ hn (HR0.out.below HB2.out (Nat.le_refl _))).mono ?_
  rintro e4 w4 ⟨v4, rfl, ho, hb⟩
  have HO4 := Lib.hid ho
  have HB4 := Lib.hid (below_trans HB2.out hb (Nat.le_refl _))
  have KB4 := Lib.hid (KB2.out.new hb)
  have hs4 := HB2.out.size
  clear ho hb k0 k1 k2 k3 k4 k5
  have k0 := KB4.out.at_ (j := 0) rfl
  have k1 := KB4.out.at_ (j := 1) rfl
  have k2 := KB4.out.at_ (j := 2) rfl
  have k3 := KB4.out.at_ (j := 3) rfl
  have k4 := KB4.out.at_ (j := 4) rfl
  have k5 := KB4.out.at_ (j := 5) rfl
  go_wp2_with fail
  refine (spec_l5Drop a1 l A n c 0 w.heap.size _ hn (HR0.out.below HB4.out (Nat.le_refl _)) HC.out hok (WalkArith.wf_i64 he.out.2.1)).mono ?_
  rintro e5 w5 ⟨A5, c5, rfl, hF5, hb5⟩
  have HF5 := Lib.hid (hF5.mono (lo' := w.heap.size) HB4.out.size (Nat.le_refl _))
  have HB5 := Lib.hid (below_trans HB4.out hb5 (Nat.le_refl _))
  clear hF5 hb5
  go_wp2_with fail
  go_ret2
  exact ⟨A5, c5, rfl, HF5.out, HB5.out⟩
set_option maxHeartbeats 16000000 in
theorem spec_apply_text (a1 a2 a3 a4 a5 : Int) (l : List TNode) (A : Option Addr) (n c lo hi : Nat) (w : World) (hn : n ≤ 1048576) (hr : Rd w lo hi 5 A n (cNode l)) (hcap : n ≤ c) (hok : Hid (cNodeOk l)) (he : Hid (TEdit.fit (⟨3, a1, a2, a3, a4, a5⟩ : TEdit))) (hdoc : mIsDoc l = true) (hed : mIsEdit (⟨3, a1, a2, a3, a4, a5⟩ : TEdit) = true) :
    Calls Tryz.prog 85 #[.slice A n c, .agg #[.int .i64 3, .int .i64 a1, .int .i64 a2, .int .i64 a3, .int .i64 a4, .int .i64 a5]] w (MakesQ ((mText l (⟨3, a1, a2, a3, a4, a5⟩ : TEdit)).getD l) (mText l (⟨3, a1, a2, a3, a4, a5⟩ : TEdit)).isSome w) := by
  have HL := Lib.hid (rd_len TNode.len hr (by decide))
  have HR0 := Lib.hid (hr.old (by decide))
  have HC := Lib.hid hcap
  have KB0 := Lib.hid (box_new w 157 #[.int .i64 3, .int .i64 a1, .int .i64 a2, .int .i64 a3, .int .i64 a4, .int .i64 a5])
  have HB0 := Lib.hid ((Below.refl w.heap.size w).alloc (Nat.le_refl _) (.cells #[.int .i64 3, .int .i64 a1, .int .i64 a2, .int .i64 a3, .int .i64 a4, .int .i64 a5] 157))
  clear hr hcap
  have C2 : Hid (∀ W, Calls Tryz.prog 114 #[.agg #[.int .i64 3, .int .i64 a1, .int .i64 a2, .int .i64 a3, .int .i64 a4, .int .i64 a5]] W (Says (.bool true) W)) := Lib.hid (fun W => hed ▸ spec_IsEdit (⟨3, a1, a2, a3, a4, a5⟩ : TEdit) W he)
  clear hed
  cases h1 : (idx l a1).isSome with
  | true =>
    obtain ⟨v, hv⟩ := Option.isSome_iff_exists.1 h1
    obtain ⟨j, x, rfl, hjl, hx, _⟩ := idx_lt hv
    have gk := mNode_of hv
    have HX := Lib.hid hx
    have hjn : j < n := by have := HL.out; omega
    have g0 : decide ((j : Int) < 0) = false := by simp
    have HE := Lib.hid (show mText l (⟨3, a1, a2, a3, a4, a5⟩ : TEdit) = some (l.modify j (setText (⟨3, a1, a2, a3, a4, a5⟩ : TEdit))) by unfold mText; rw [if_pos h1, gk]; rfl)
    clear h1 hv hx hjl
    go_enter Tryz.func85, Tryz.ntmps85
    go_wp2_with fail
    refine (spec_IsDocument' l A n c 0 w.heap.size _ (by omega) HC.out (HR0.out.alloc _)).mono ?_
    rintro e1 w1 ⟨rfl, hb⟩
    rw [hdoc]
    have HB1 := Lib.hid (below_trans HB0.out hb (by simp))
    have KB1 := Lib.hid (KB0.out.new hb)
    have k0 := KB1.out.at_ (j := 0) rfl
    have k1 := KB1.out.at_ (j := 1) rfl
    have k2 := KB1.out.at_ (j := 2) rfl
    have k3 := KB1.out.at_ (j := 3) rfl
    have k4 := KB1.out.at_ (j := 4) rfl
    have k5 := KB1.out.at_ (j := 5) rfl
    clear hb
    go_wp2_with fail
    refine (C2.out _).mono ?_
    rintro e2 w2 ⟨rfl, hb⟩
    have HB2 := Lib.hid (below_trans HB1.out hb (Nat.le_refl _))
    have KB2 := Lib.hid (KB1.out.new hb)
    clear k0 k1 k2 k3 k4 k5
    have k0 := KB2.out.at_ (j := 0) rfl
    have k1 := KB2.out.at_ (j := 1) rfl
    have k2 := KB2.out.at_ (j := 2) rfl
    have k3 := KB2.out.at_ (j := 3) rfl
    have k4 := KB2.out.at_ (j := 4) rfl
    have k5 := KB2.out.at_ (j := 5) rfl
    clear hb
    go_wp2_with fail
    refine (spec_NodeOf' l A n c 0 w.heap.size a1 _ (by omega) (HR0.out.below HB2.out (Nat.le_refl _))).mono ?_
    rintro e3 w3 ⟨rfl, rfl⟩
    rw [gk]
    go_wp2_with fail
    refine (l5_copy l A n c 0 w.heap.size _ hn (HR0.out.below HB2.out (Nat.le_refl _))).mono ?_
    rintro e4 w4 ⟨v4, rfl, ho, hb⟩
    have HO4 := Lib.hid ho
    have HB4 := Lib.hid (below_trans HB2.out hb (Nat.le_refl _))
    have KB4 := Lib.hid (KB2.out.new hb)
    have hs4 := HB2.out.size
    clear ho hb k0 k1 k2 k3 k4 k5
    have k0 := KB4.out.at_ (j := 0) rfl
    have k1 := KB4.out.at_ (j := 1) rfl
    have k2 := KB4.out.at_ (j := 2) rfl
    have k3 := KB4.out.at_ (j := 3) rfl
    have k4 := KB4.out.at_ (j := 4) rfl
    have k5 := KB4.out.at_ (j := 5) rfl
    obtain ⟨A', c', rfl, hF⟩ := fr_of_own HO4.out
    obtain ⟨g, cap, rfl, h1, h2, h3, rfl, h5, f, hrow, hf⟩ := hF.row (by omega)
    have q3 := hrow.cell (i := j * 5 + 3) (by omega)
    have q4 := hrow.cell (i := j * 5 + 4) (by omega)
    have r3 := hrow.frozen (j * 5 + 3)
    have r4 := hrow.frozen (j * 5 + 4)
    have HRow := Lib.hid hrow
    have HF := Lib.hid hf
    have HBs := Lib.hid ((HB4.out.setCell (p := ⟨g, j * 5 + 3, none⟩) (show w.heap.size ≤ g by omega) (.int .i64 a4)).setCell (p := ⟨g, j * 5 + 4, none⟩) (show w.heap.size ≤ g by omega) (.int .i64 a5))
    have hgw : g ≠ w.heap.size := by have := KB2.out.lt; omega
    clear hrow hf hF
    go_wp2_with fail
    go_ret2
    refine makesq_some HE.out ⟨some ⟨g, 0, none⟩, c', ?_, ?_, HBs.out⟩
    · rw [List.length_modify, HL.out]; rfl
    · rw [List.length_modify, HL.out]
      exact fr_of_rowcap ((HRow.out.set (j * 5 + 3) (.int .i64 a4)).set (j * 5 + 4) (.int .i64 a5)) (by omega) (by simpa [World.setCell] using h2) h3 h5 (by rw [flat_len TNode.len, List.length_modify, HL.out]) (mod_row HX.out HF.out (by decide) rfl)
  | false =>
    have g0 : decide (mNodeOf l a1 < 0) = true := by have h := mNodeOf_neg h1; rw [decide_eq_true_eq]; omega
    have HE := Lib.hid (show mText l (⟨3, a1, a2, a3, a4, a5⟩ : TEdit) = none by unfold mText; rw [if_neg (by rw [h1]; decide)])
    clear h1
    go_enter Tryz.func85, Tryz.ntmps85
    go_wp2_with fail
    refine (spec_IsDocument' l A n c 0 w.heap.size _ (by omega) HC.out (HR0.out.alloc _)).mono ?_
    rintro e1 w1 ⟨rfl, hb⟩
    rw [hdoc]
    have HB1 := Lib.hid (below_trans HB0.out hb (by simp))
    have KB1 := Lib.hid (KB0.out.new hb)
    have k0 := KB1.out.at_ (j := 0) rfl
    have k1 := KB1.out.at_ (j := 1) rfl
    have k2 := KB1.out.at_ (j := 2) rfl
    have k3 := KB1.out.at_ (j := 3) rfl
    have k4 := KB1.out.at_ (j := 4) rfl
    have k5 := KB1.out.at_ (j := 5) rfl
    clear hb
    go_wp2_with fail
    refine (C2.out _).mono ?_
    rintro e2 w2 ⟨rfl, hb⟩
    have HB2 := Lib.hid (below_trans HB1.out hb (Nat.le_refl _))
    have KB2 := Lib.hid (KB1.out.new hb)
    clear k0 k1 k2 k3 k4 k5
    have k0 := KB2.out.at_ (j := 0) rfl
    have k1 := KB2.out.at_ (j := 1) rfl
    have k2 := KB2.out.at_ (j := 2) rfl
    have k3 := KB2.out.at_ (j := 3) rfl
    have k4 := KB2.out.at_ (j := 4) rfl
    have k5 := KB2.out.at_ (j := 5) rfl
    clear hb
    go_wp2_with fail
    refine (spec_NodeOf' l A n c 0 w.heap.size a1 _ (by omega) (HR0.out.below HB2.out (Nat.le_refl _))).mono ?_
    rintro e3 w3 ⟨rfl, rfl⟩
    go_wp2_with fail
    refine (l5_copy l A n c 0 w.heap.size _ hn (HR0.out.below HB2.out (Nat.le_refl _))).mono ?_
    rintro e4 w4 ⟨v4, rfl, ho, hb⟩
    have HO4 := Lib.hid ho
    have HB4 := Lib.hid (below_trans HB2.out hb (Nat.le_refl _))
    have KB4 := Lib.hid (KB2.out.new hb)
    have hs4 := HB2.out.size
    clear ho hb k0 k1 k2 k3 k4 k5
    have k0 := KB4.out.at_ (j := 0) rfl
    have k1 := KB4.out.at_ (j := 1) rfl
    have k2 := KB4.out.at_ (j := 2) rfl
    have k3 := KB4.out.at_ (j := 3) rfl
    have k4 := KB4.out.at_ (j := 4) rfl
    have k5 := KB4.out.at_ (j := 5) rfl
    have HBn := HB4.out
    go_wp2_with fail
    go_ret2
    exact makesq_none HE.out (makesq_of_own hs4 HO4.out HL.out.symm HBn)
set_option maxHeartbeats 16000000 in
theorem spec_apply_move (a1 a2 a3 a4 a5 : Int) (l : List TNode) (A : Option Addr) (n c lo hi : Nat) (w : World) (hn : n ≤ 1048576) (hr : Rd w lo hi 5 A n (cNode l)) (hcap : n ≤ c) (hok : Hid (cNodeOk l)) (he : Hid (TEdit.fit (⟨4, a1, a2, a3, a4, a5⟩ : TEdit))) (hdoc : mIsDoc l = true) (hed : mIsEdit (⟨4, a1, a2, a3, a4, a5⟩ : TEdit) = true) :
    Calls Tryz.prog 85 #[.slice A n c, .agg #[.int .i64 4, .int .i64 a1, .int .i64 a2, .int .i64 a3, .int .i64 a4, .int .i64 a5]] w (MakesQ ((mMove l (⟨4, a1, a2, a3, a4, a5⟩ : TEdit)).getD l) (mMove l (⟨4, a1, a2, a3, a4, a5⟩ : TEdit)).isSome w) := by
  have HL := Lib.hid (rd_len TNode.len hr (by decide))
  have HR0 := Lib.hid (hr.old (by decide))
  have HC := Lib.hid hcap
  have KB0 := Lib.hid (box_new w 157 #[.int .i64 4, .int .i64 a1, .int .i64 a2, .int .i64 a3, .int .i64 a4, .int .i64 a5])
  have HB0 := Lib.hid ((Below.refl w.heap.size w).alloc (Nat.le_refl _) (.cells #[.int .i64 4, .int .i64 a1, .int .i64 a2, .int .i64 a3, .int .i64 a4, .int .i64 a5] 157))
  clear hr hcap
  have C2 : Hid (∀ W, Calls Tryz.prog 114 #[.agg #[.int .i64 4, .int .i64 a1, .int .i64 a2, .int .i64 a3, .int .i64 a4, .int .i64 a5]] W (Says (.bool true) W)) := Lib.hid (fun W => hed ▸ spec_IsEdit (⟨4, a1, a2, a3, a4, a5⟩ : TEdit) W he)
  clear hed
  cases h1 : (idx l a1).isSome with
  | true =>
    obtain ⟨v, hv⟩ := Option.isSome_iff_exists.1 h1
    obtain ⟨j, x, rfl, hjl, hx, _⟩ := idx_lt hv
    have gk := mNode_of hv
    have HX := Lib.hid hx
    have hjn : j < n := by have := HL.out; omega
    have g0 : decide ((j : Int) < 0) = false := by simp
    cases h2 : (idx l a2).isSome with
    | true =>
      have g2 : decide (mNodeOf l a2 < 0) = false := by have h := mNodeOf_pos h2; rw [decide_eq_false_iff_not]; omega
      by_cases h3 : a2 < a1
      · have g3 : decide (a1 ≤ a2) = false := by rw [decide_eq_false_iff_not]; omega
        have HE := Lib.hid (show mMove l (⟨4, a1, a2, a3, a4, a5⟩ : TEdit) = some (l.modify j (setPar (⟨4, a1, a2, a3, a4, a5⟩ : TEdit))) by unfold mMove mayMove; rw [if_pos (by simp [h1, h2, h3]), gk]; rfl)
        clear h1 hv hx hjl h2 h3
        go_enter Tryz.func85, Tryz.ntmps85
        go_wp2_with fail
        refine (spec_IsDocument' l A n c 0 w.heap.size _ (by omega) HC.out (HR0.out.alloc _)).mono ?_
        rintro e1 w1 ⟨rfl, hb⟩
        rw [hdoc]
        have HB1 := Lib.hid (below_trans HB0.out hb (by simp))
        have KB1 := Lib.hid (KB0.out.new hb)
        have k0 := KB1.out.at_ (j := 0) rfl
        have k1 := KB1.out.at_ (j := 1) rfl
        have k2 := KB1.out.at_ (j := 2) rfl
        have k3 := KB1.out.at_ (j := 3) rfl
        have k4 := KB1.out.at_ (j := 4) rfl
        have k5 := KB1.out.at_ (j := 5) rfl
        clear hb
        go_wp2_with fail
        refine (C2.out _).mono ?_
        rintro e2 w2 ⟨rfl, hb⟩
        have HB2 := Lib.hid (below_trans HB1.out hb (Nat.le_refl _))
        have KB2 := Lib.hid (KB1.out.new hb)
        clear k0 k1 k2 k3 k4 k5
        have k0 := KB2.out.at_ (j := 0) rfl
        have k1 := KB2.out.at_ (j := 1) rfl
        have k2 := KB2.out.at_ (j := 2) rfl
        have k3 := KB2.out.at_ (j := 3) rfl
        have k4 := KB2.out.at_ (j := 4) rfl
        have k5 := KB2.out.at_ (j := 5) rfl
        clear hb
        go_wp2_with fail
        refine (spec_NodeOf' l A n c 0 w.heap.size a1 _ (by omega) (HR0.out.below HB2.out (Nat.le_refl _))).mono ?_
        rintro e3 w3 ⟨rfl, rfl⟩
        rw [gk]
        go_wp2_with fail
        refine (l5_copy l A n c 0 w.heap.size _ hn (HR0.out.below HB2.out (Nat.le_refl _))).mono ?_
        rintro e4 w4 ⟨v4, rfl, ho, hb⟩
        have HO4 := Lib.hid ho
        have HB4 := Lib.hid (below_trans HB2.out hb (Nat.le_refl _))
        have KB4 := Lib.hid (KB2.out.new hb)
        have hs4 := HB2.out.size
        clear ho hb k0 k1 k2 k3 k4 k5
        have k0 := KB4.out.at_ (j := 0) rfl
        have k1 := KB4.out.at_ (j := 1) rfl
        have k2 := KB4.out.at_ (j := 2) rfl
        have k3 := KB4.out.at_ (j := 3) rfl
        have k4 := KB4.out.at_ (j := 4) rfl
        have k5 := KB4.out.at_ (j := 5) rfl
        go_wp2_with fail
        refine (spec_NodeOf' l A n c 0 w.heap.size a2 _ (by omega) (HR0.out.below HB4.out (Nat.le_refl _))).mono ?_
        rintro e5 w5 ⟨rfl, rfl⟩
        obtain ⟨A', c', rfl, hF⟩ := fr_of_own HO4.out
        obtain ⟨g, cap, rfl, h1, h2, h3, rfl, h5, f, hrow, hf⟩ := hF.row (by omega)
        have q3 := hrow.cell (i := j * 5 + 1) (by omega)
        have q4 := hrow.cell (i := j * 5 + 4) (by omega)
        have r3 := hrow.frozen (j * 5 + 1)
        have r4 := hrow.frozen (j * 5 + 4)
        have HRow := Lib.hid hrow
        have HF := Lib.hid hf
        have HBs := Lib.hid ((HB4.out.setCell (p := ⟨g, j * 5 + 1, none⟩) (show w.heap.size ≤ g by omega) (.int .i64 a2)).setCell (p := ⟨g, j * 5 + 4, none⟩) (show w.heap.size ≤ g by omega) (.int .i64 a5))
        have hgw : g ≠ w.heap.size := by have := KB2.out.lt; omega
        clear hrow hf hF
        go_wp2_with fail
        go_ret2
        refine makesq_some HE.out ⟨some ⟨g, 0, none⟩, c', ?_, ?_, HBs.out⟩
        · rw [List.length_modify, HL.out]; rfl
        · rw [List.length_modify, HL.out]
          exact fr_of_rowcap ((HRow.out.set (j * 5 + 1) (.int .i64 a2)).set (j * 5 + 4) (.int .i64 a5)) (by omega) (by simpa [World.setCell] using h2) h3 h5 (by rw [flat_len TNode.len, List.length_modify, HL.out]) (mod_row HX.out HF.out (by decide) rfl)
      · have g3 : decide (a1 ≤ a2) = true := by rw [decide_eq_true_eq]; omega
        have HE := Lib.hid (show mMove l (⟨4, a1, a2, a3, a4, a5⟩ : TEdit) = none by unfold mMove mayMove; rw [if_neg (by simp [h3])])
        clear h1 hv hx hjl h2 h3
        go_enter Tryz.func85, Tryz.ntmps85
        go_wp2_with fail
        refine (spec_IsDocument' l A n c 0 w.heap.size _ (by omega) HC.out (HR0.out.alloc _)).mono ?_
        rintro e1 w1 ⟨rfl, hb⟩
        rw [hdoc]
        have HB1 := Lib.hid (below_trans HB0.out hb (by simp))
        have KB1 := Lib.hid (KB0.out.new hb)
        have k0 := KB1.out.at_ (j := 0) rfl
        have k1 := KB1.out.at_ (j := 1) rfl
        have k2 := KB1.out.at_ (j := 2) rfl
        have k3 := KB1.out.at_ (j := 3) rfl
        have k4 := KB1.out.at_ (j := 4) rfl
        have k5 := KB1.out.at_ (j := 5) rfl
        clear hb
        go_wp2_with fail
        refine (C2.out _).mono ?_
        rintro e2 w2 ⟨rfl, hb⟩
        have HB2 := Lib.hid (below_trans HB1.out hb (Nat.le_refl _))
        have KB2 := Lib.hid (KB1.out.new hb)
        clear k0 k1 k2 k3 k4 k5
        have k0 := KB2.out.at_ (j := 0) rfl
        have k1 := KB2.out.at_ (j := 1) rfl
        have k2 := KB2.out.at_ (j := 2) rfl
        have k3 := KB2.out.at_ (j := 3) rfl
        have k4 := KB2.out.at_ (j := 4) rfl
        have k5 := KB2.out.at_ (j := 5) rfl
        clear hb
        go_wp2_with fail
        refine (spec_NodeOf' l A n c 0 w.heap.size a1 _ (by omega) (HR0.out.below HB2.out (Nat.le_refl _))).mono ?_
        rintro e3 w3 ⟨rfl, rfl⟩
        rw [gk]
        go_wp2_with fail
        refine (l5_copy l A n c 0 w.heap.size _ hn (HR0.out.below HB2.out (Nat.le_refl _))).mono ?_
        rintro e4 w4 ⟨v4, rfl, ho, hb⟩
        have HO4 := Lib.hid ho
        have HB4 := Lib.hid (below_trans HB2.out hb (Nat.le_refl _))
        have KB4 := Lib.hid (KB2.out.new hb)
        have hs4 := HB2.out.size
        clear ho hb k0 k1 k2 k3 k4 k5
        have k0 := KB4.out.at_ (j := 0) rfl
        have k1 := KB4.out.at_ (j := 1) rfl
        have k2 := KB4.out.at_ (j := 2) rfl
        have k3 := KB4.out.at_ (j := 3) rfl
        have k4 := KB4.out.at_ (j := 4) rfl
        have k5 := KB4.out.at_ (j := 5) rfl
        go_wp2_with fail
        refine (spec_NodeOf' l A n c 0 w.heap.size a2 _ (by omega) (HR0.out.below HB4.out (Nat.le_refl _))).mono ?_
        rintro e5 w5 ⟨rfl, rfl⟩
        have HBn := HB4.out
        go_wp2_with fail
        go_ret2
        exact makesq_none HE.out (makesq_of_own hs4 HO4.out HL.out.symm HBn)
    | false =>
      have g2 : decide (mNodeOf l a2 < 0) = true := by have h := mNodeOf_neg h2; rw [decide_eq_true_eq]; omega
      have HE := Lib.hid (show mMove l (⟨4, a1, a2, a3, a4, a5⟩ : TEdit) = none by unfold mMove mayMove; rw [if_neg (by simp [h2])])
      clear h1 hv hx hjl h2
      go_enter Tryz.func85, Tryz.ntmps85
      go_wp2_with fail
      refine (spec_IsDocument' l A n c 0 w.heap.size _ (by omega) HC.out (HR0.out.alloc _)).mono ?_
      rintro e1 w1 ⟨rfl, hb⟩
      rw [hdoc]
      have HB1 := Lib.hid (below_trans HB0.out hb (by simp))
      have KB1 := Lib.hid (KB0.out.new hb)
      have k0 := KB1.out.at_ (j := 0) rfl
      have k1 := KB1.out.at_ (j := 1) rfl
      have k2 := KB1.out.at_ (j := 2) rfl
      have k3 := KB1.out.at_ (j := 3) rfl
      have k4 := KB1.out.at_ (j := 4) rfl
      have k5 := KB1.out.at_ (j := 5) rfl
      clear hb
      go_wp2_with fail
      refine (C2.out _).mono ?_
      rintro e2 w2 ⟨rfl, hb⟩
      have HB2 := Lib.hid (below_trans HB1.out hb (Nat.le_refl _))
      have KB2 := Lib.hid (KB1.out.new hb)
      clear k0 k1 k2 k3 k4 k5
      have k0 := KB2.out.at_ (j := 0) rfl
      have k1 := KB2.out.at_ (j := 1) rfl
      have k2 := KB2.out.at_ (j := 2) rfl
      have k3 := KB2.out.at_ (j := 3) rfl
      have k4 := KB2.out.at_ (j := 4) rfl
      have k5 := KB2.out.at_ (j := 5) rfl
      clear hb
      go_wp2_with fail
      refine (spec_NodeOf' l A n c 0 w.heap.size a1 _ (by omega) (HR0.out.below HB2.out (Nat.le_refl _))).mono ?_
      rintro e3 w3 ⟨rfl, rfl⟩
      rw [gk]
      go_wp2_with fail
      refine (l5_copy l A n c 0 w.heap.size _ hn (HR0.out.below HB2.out (Nat.le_refl _))).mono ?_
      rintro e4 w4 ⟨v4, rfl, ho, hb⟩
      have HO4 := Lib.hid ho
      have HB4 := Lib.hid (below_trans HB2.out hb (Nat.le_refl _))
      have KB4 := Lib.hid (KB2.out.new hb)
      have hs4 := HB2.out.size
      clear ho hb k0 k1 k2 k3 k4 k5
      have k0 := KB4.out.at_ (j := 0) rfl
      have k1 := KB4.out.at_ (j := 1) rfl
      have k2 := KB4.out.at_ (j := 2) rfl
      have k3 := KB4.out.at_ (j := 3) rfl
      have k4 := KB4.out.at_ (j := 4) rfl
      have k5 := KB4.out.at_ (j := 5) rfl
      go_wp2_with fail
      refine (spec_NodeOf' l A n c 0 w.heap.size a2 _ (by omega) (HR0.out.below HB4.out (Nat.le_refl _))).mono ?_
      rintro e5 w5 ⟨rfl, rfl⟩
      have HBn := HB4.out
      go_wp2_with fail
      go_ret2
      exact makesq_none HE.out (makesq_of_own hs4 HO4.out HL.out.symm HBn)
  | false =>
    have g0 : decide (mNodeOf l a1 < 0) = true := by have h := mNodeOf_neg h1; rw [decide_eq_true_eq]; omega
    have HE := Lib.hid (show mMove l (⟨4, a1, a2, a3, a4, a5⟩ : TEdit) = none by unfold mMove mayMove; rw [if_neg (by simp [h1])])
    clear h1
    go_enter Tryz.func85, Tryz.ntmps85
    go_wp2_with fail
    refine (spec_IsDocument' l A n c 0 w.heap.size _ (by omega) HC.out (HR0.out.alloc _)).mono ?_
    rintro e1 w1 ⟨rfl, hb⟩
    rw [hdoc]
    have HB1 := Lib.hid (below_trans HB0.out hb (by simp))
    have KB1 := Lib.hid (KB0.out.new hb)
    have k0 := KB1.out.at_ (j := 0) rfl
    have k1 := KB1.out.at_ (j := 1) rfl
    have k2 := KB1.out.at_ (j := 2) rfl
    have k3 := KB1.out.at_ (j := 3) rfl
    have k4 := KB1.out.at_ (j := 4) rfl
    have k5 := KB1.out.at_ (j := 5) rfl
    clear hb
    go_wp2_with fail
    refine (C2.out _).mono ?_
    rintro e2 w2 ⟨rfl, hb⟩
    have HB2 := Lib.hid (below_trans HB1.out hb (Nat.le_refl _))
    have KB2 := Lib.hid (KB1.out.new hb)
    clear k0 k1 k2 k3 k4 k5
    have k0 := KB2.out.at_ (j := 0) rfl
    have k1 := KB2.out.at_ (j := 1) rfl
    have k2 := KB2.out.at_ (j := 2) rfl
    have k3 := KB2.out.at_ (j := 3) rfl
    have k4 := KB2.out.at_ (j := 4) rfl
    have k5 := KB2.out.at_ (j := 5) rfl
    clear hb
    go_wp2_with fail
    refine (spec_NodeOf' l A n c 0 w.heap.size a1 _ (by omega) (HR0.out.below HB2.out (Nat.le_refl _))).mono ?_
    rintro e3 w3 ⟨rfl, rfl⟩
    go_wp2_with fail
    refine (l5_copy l A n c 0 w.heap.size _ hn (HR0.out.below HB2.out (Nat.le_refl _))).mono ?_
    rintro e4 w4 ⟨v4, rfl, ho, hb⟩
    have HO4 := Lib.hid ho
    have HB4 := Lib.hid (below_trans HB2.out hb (Nat.le_refl _))
    have KB4 := Lib.hid (KB2.out.new hb)
    have hs4 := HB2.out.size
    clear ho hb k0 k1 k2 k3 k4 k5
    have k0 := KB4.out.at_ (j := 0) rfl
    have k1 := KB4.out.at_ (j := 1) rfl
    have k2 := KB4.out.at_ (j := 2) rfl
    have k3 := KB4.out.at_ (j := 3) rfl
    have k4 := KB4.out.at_ (j := 4) rfl
    have k5 := KB4.out.at_ (j := 5) rfl
    have HBn := HB4.out
    go_wp2_with fail
    go_ret2
    exact makesq_none HE.out (makesq_of_own hs4 HO4.out HL.out.symm HBn)
theorem spec_apply (e : TEdit) (l : List TNode) (A : Option Addr) (n c lo hi : Nat) (w : World) (hn : n ≤ 1048576) (hr : Rd w lo hi 5 A n (cNode l)) (hcap : n ≤ c) (hok : Hid (cNodeOk l)) (he : Hid (TEdit.fit e)) :
    Calls Tryz.prog 85 #[.slice A n c, .agg #[.int .i64 e.f0, .int .i64 e.f1, .int .i64 e.f2, .int .i64 e.f3, .int .i64 e.f4, .int .i64 e.f5]] w (MakesQ (mApply l e) (mEdited l e).isSome w) := by
  show Calls _ _ _ _ (MakesQ ((mEdited l e).getD l) (mEdited l e).isSome w)
  by_cases h : (mIsDoc l && mIsEdit e) = true
  · have hme : mEdited l e = mChange l e := by unfold mEdited; rw [if_pos h]
    rw [hme]
    rw [Bool.and_eq_true] at h
    obtain ⟨k, a1, a2, a3, a4, a5⟩ := e
    have hk : k = 1 ∨ k = 2 ∨ k = 3 ∨ k = 4 := by
      have h2 := h.2
      unfold mIsEdit at h2
      simp only [Bool.and_eq_true] at h2
      have := inR_true.1 h2.1.1.1.1.1
      omega
    rcases hk with rfl | rfl | rfl | rfl
    · exact spec_apply_add a1 a2 a3 a4 a5 l A n c lo hi w hn hr hcap hok he h.1 h.2
    · exact spec_apply_drop a1 a2 a3 a4 a5 l A n c lo hi w hn hr hcap hok he h.1 h.2
    · exact spec_apply_text a1 a2 a3 a4 a5 l A n c lo hi w hn hr hcap hok he h.1 h.2
    · exact spec_apply_move a1 a2 a3 a4 a5 l A n c lo hi w hn hr hcap hok he h.1 h.2
  · exact spec_apply_no e l A n c lo hi w hn hr hcap hok he (by simpa using h)
end Go.Proofs.YtjgcgipglmhgeaaGreat
namespace Go.Proofs.YtjgcgipglmhgeaaGreat
open Go Go.ChangeShapes Go.WideShapes Go.ChangeAt Go.RowKit Go.Lib Go.Shelf
set_option linter.unusedVariables false
set_option linter.unusedSimpArgs false
set_option maxRecDepth 100000
theorem mRun_le {l : List TNode} (es : List TEdit) (h : cNodeOk l) : (mRun l es).length ≤ l.length + 16 := run_le es h (by omega) (by omega)
theorem run_any (l0 : List TNode) (A0 : Option Addr) (n0 c0 lo0 hi0 : Nat) (l1 : List TEdit) (A1 : Option Addr) (n1 c1 lo1 hi1 : Nat) (w : World) (h0 : n0 ≤ 1048576) (r0 : Rd w lo0 hi0 5 A0 n0 (cNode l0)) (b0 : Hid (cNodeOk l0)) (h1 : n1 ≤ 1048576) (r1 : Rd w lo1 hi1 6 A1 n1 (cEdit l1)) :
    Calls Tryz.prog 64 #[.slice A0 n0 c0, .slice A1 n1 c1] w (Makes 70 5 (mRun l0 l1).length (cNode (mRun l0 l1)) w) := by
  have R0 := Lib.hid (r0.old (by decide))
  have R1 := Lib.hid (r1.old (by decide))
  clear r0 r1
  generalize hM : mRun l0 l1 = M
  have HM := Lib.hid hM
  clear hM
  go_enter Tryz.func64, Tryz.ntmps64
  go_wp2_with fail
  refine (make_Values A1 n1 c1 w).mono ?_
  rintro e w1 ⟨Bl, rfl, kl, hb⟩
  have HB1 := Lib.hid hb
  have hs := hb.size
  have CR := Lib.hid (callsIn_wide.1 (replay_in 3 (Nat.le_refl _) 135 #[.pointer (some ⟨Bl, 0, none⟩)] l1 n1 l0 A0 n0 c0 0 w.heap.size w1 h0 (R0.out.new hb) b0 (enters_of Tryz.func135 (by kernel_rfl) rfl) trivial
    (fun W hW => stops_Values 2 (by decide) w1.heap.size l1 A1 n1 c1 0 w.heap.size Bl W (kl.new hW) ((R1.out.new hb).new hW) hs kl.lt h1 hW.size)))
  rw [HM.out] at CR
  generalize hml : M.length = k at CR
  have HK := Lib.hid hml
  clear hb kl hml
  go_wp2_with fail
  refine CR.out.mono ?_
  rintro e w2 ⟨A', c', rfl, hF, hb2⟩
  have HF := Lib.hid (hF.mono (lo' := w.heap.size) hs (Nat.le_refl _))
  have HB2 := Lib.hid (below_trans HB1.out hb2 (Nat.le_refl _))
  clear hF hb2 CR
  go_wp2_with fail
  go_ret
  exact ⟨A', c', by rw [HK.out]; rfl, by rw [HK.out]; exact HF.out, HB2.out⟩
set_option maxHeartbeats 8000000 in
theorem spec_run (l0 : List TNode) (A0 : Option Addr) (n0 c0 lo0 hi0 : Nat) (l1 : List TEdit) (A1 : Option Addr) (n1 c1 lo1 hi1 : Nat) (w : World) (h0 : n0 ≤ 1048576) (r0 : Rd w lo0 hi0 5 A0 n0 (cNode l0)) (b0 : Hid (cNodeOk l0)) (h1 : n1 ≤ 1048576) (r1 : Rd w lo1 hi1 6 A1 n1 (cEdit l1)) (b1 : Hid (cEditOk l1)) :
    Calls Tryz.prog 52 #[.slice A0 n0 c0, .slice A1 n1 c1] w (Makes 70 5 (mRun l0 l1).length (cNode (mRun l0 l1)) w) := by
  have HL0 := Lib.hid (rd_len TNode.len r0 (by decide))
  have HL := Lib.hid (rd_len TEdit.len r1 (by decide))
  have R0 := Lib.hid r0
  have R1 := Lib.hid r1
  clear r0 r1
  go_enter Tryz.func52, Tryz.ntmps52
  go_wp2_with fail
  refine (l5_copy l0 A0 n0 c0 lo0 hi0 _ h0 R0.out).mono ?_
  rintro e w1 ⟨v, rfl, ho, hb⟩
  obtain ⟨A', c', rfl, hF⟩ := fr_of_own ho
  have HF := Lib.hid hF
  have HB := Lib.hid hb
  clear ho hF hb
  go_wp2_with fail
  go_loopg [5, 6] n1 (fun gg v i wr => ∃ (k nn : Nat) (L : List TNode) (A' : Option Addr) (c' : Nat), k ≤ n1 ∧ n1 - k ≤ gg ∧ i = .int .i64 k ∧ v = .slice A' nn c' ∧ Hid (mRun l0 (l1.take k) = L ∧ L.length = nn) ∧ Hid (Fr wr w.heap.size wr.heap.size 70 5 A' nn c' (cNode L)) ∧ Hid (Below w.heap.size w wr))
  case atStart => exact ⟨0, n0, l0, A', c', Nat.zero_le _, by omega, rfl, rfl, Lib.hid ⟨rfl, HL0.out⟩, HF, HB⟩
  case round =>
    clear HF HB
    obtain ⟨k, nn, L, A', c', hk, hg, rfl, rfl, HM, HF, HB⟩ := hrel
    by_cases hlt : k < n1
    · obtain ⟨b, off, x, rfl, _, _, hz, hc⟩ := rd_elem TEdit.len (R1.out.new HB.out) HL.out hlt
      have q0 : wr.cell? ⟨b, off + k * 6, none⟩ = _ := hc 0 _ rfl
      have q1 := hc 1 _ rfl
      have q2 := hc 2 _ rfl
      have q3 := hc 3 _ rfl
      have q4 := hc 4 _ rfl
      have q5 := hc 5 _ rfl
      have hfit : Hid (cNodeOk L) := Lib.hid (by rw [← HM.out.1]; exact run_fits _ b0.out)
      have hnn : nn ≤ 1048576 := by
        have h := run_le (l1.take k) b0.out (M := 1048576) (by omega) (by rw [HL0.out]; exact h0)
        rw [HM.out.1, HM.out.2] at h
        exact h
      have CS := Lib.hid (spec_apply x L A' nn c' w.heap.size wr.heap.size wr hnn HF.out.rd HF.out.cap hfit (Lib.hid (b1.out x (List.mem_of_getElem? hz))))
      have HM2 := Lib.hid (show mRun l0 (l1.take (k + 1)) = mApply L x by rw [run_snoc l0 hz, HM.out.1])
      clear hz hc HF hfit hnn
      generalize mEdited L x = oq at CS
      generalize oq.isSome = ob at CS
      generalize mApply L x = L2 at CS HM2
      generalize hnl : L2.length = n2 at CS
      have HNL := Lib.hid hnl
      clear hnl
      go_wp2_with fail
      refine CS.out.mono ?_
      rintro e w2 ⟨A2, c2, he, hF2, hb2⟩
      rw [HNL.out] at he hF2
      subst he
      have HF2 := Lib.hid (hF2.mono (lo' := w.heap.size) HB.out.size (Nat.le_refl _))
      have HB2 := Lib.hid (below_trans HB.out hb2 (Nat.le_refl _))
      clear hF2 hb2 CS
      go_wp2_with fail
      go_roundg (n1 - (k + 1))
      case measure => omega
      case rel => exact ⟨k + 1, n2, L2, A2, c2, by omega, by omega, by go_num, rfl, Lib.hid ⟨HM2.out, HNL.out⟩, HF2, HB2⟩
    · obtain rfl : k = n1 := by omega
      have HE := Lib.hid (show mRun l0 l1 = L by rw [← HM.out.1, List.take_of_length_le (by rw [HL.out]; omega)])
      go_wp2_with fail
      go_ret
      exact ⟨A', c', by rw [HE.out, HM.out.2]; rfl, by rw [HE.out, HM.out.2]; exact HF.out, HB.out⟩
theorem spec_RunEdits (l0 : List TNode) (A0 : Option Addr) (n0 c0 lo0 hi0 : Nat) (l1 : List TEdit) (A1 : Option Addr) (n1 c1 lo1 hi1 : Nat) (w : World) (h0 : n0 ≤ 1048576) (r0 : Rd w lo0 hi0 5 A0 n0 (cNode l0)) (b0 : Hid (cNodeOk l0)) (h1 : n1 ≤ 1048576) (r1 : Rd w lo1 hi1 6 A1 n1 (cEdit l1)) (b1 : Hid (cEditOk l1)) :
    Calls Tryz.prog 52 #[.slice A0 n0 c0, .slice A1 n1 c1] w (Makes 70 5 (mRun l0 l1).length (cNode (mRun l0 l1)) w) := spec_run l0 A0 n0 c0 lo0 hi0 l1 A1 n1 c1 lo1 hi1 w h0 r0 b0 h1 r1 b1
theorem impl_RunEdits (l0 : List TNode) (A0 : Option Addr) (n0 c0 lo0 hi0 : Nat) (l1 : List TEdit) (A1 : Option Addr) (n1 c1 lo1 hi1 : Nat) (w : World) (h0 : n0 ≤ 1048576) (r0 : Rd w lo0 hi0 5 A0 n0 (cNode l0)) (b0 : Hid (cNodeOk l0)) (h1 : n1 ≤ 1048576) (r1 : Rd w lo1 hi1 6 A1 n1 (cEdit l1)) (b1 : Hid (cEditOk l1)) :
    Calls Tryz.prog 64 #[.slice A0 n0 c0, .slice A1 n1 c1] w (Makes 70 5 (mRun l0 l1).length (cNode (mRun l0 l1)) w) := run_any l0 A0 n0 c0 lo0 hi0 l1 A1 n1 c1 lo1 hi1 w h0 r0 b0 h1 r1
end Go.Proofs.YtjgcgipglmhgeaaGreat
namespace Go.Proofs.YtjgcgipglmhgeaaGreat
open Go Go.ChangeShapes Go.WideShapes Go.ChangeAt Go.RowKit Go.Lib Go.Shelf
set_option linter.unusedVariables false
set_option linter.unusedSimpArgs false
set_option maxRecDepth 100000
set_option maxHeartbeats 4000000 in
theorem impl_TabDocument (s0 : TSite) (l1 : List TNode) (A1 : Option Addr) (n1 c1 lo1 hi1 : Nat) (l2 : List TEdit) (A2 : Option Addr) (n2 c2 lo2 hi2 : Nat) (l3 : List Int) (A3 : Option Addr) (n3 c3 lo3 hi3 : Nat) (p4 : Int) (w : World) (b0 : Hid (TSite.fit s0)) (h1 : n1 ≤ 1048576) (r1 : Rd w lo1 hi1 5 A1 n1 (cNode l1)) (b1 : Hid (cNodeOk l1)) (h2 : n2 ≤ 1048576) (r2 : Rd w lo2 hi2 6 A2 n2 (cEdit l2)) (b2 : Hid (cEditOk l2)) (h3 : n3 ≤ 1048576) (r3 : Rd w lo3 hi3 1 A3 n3 (i64s l3)) (b3 : Hid (I64s l3)) :
    Calls Tryz.prog 30 #[.agg #[.int .i64 s0.f0, .int .i64 s0.f1, .slice A1 n1 c1, .slice A2 n2 c2, .slice A3 n3 c3, .int .i64 p4]] w (Makes 70 5 (mRun l1 l2).length (cNode (mRun l1 l2)) w) := by
  have HB0 := Lib.hid ((Below.refl w.heap.size w).alloc (Nat.le_refl _) (.cells #[.int .i64 s0.f0, .int .i64 s0.f1, .slice A1 n1 c1, .slice A2 n2 c2, .slice A3 n3 c3, .int .i64 p4] 61))
  have CR := Lib.hid (impl_RunEdits l1 A1 n1 c1 lo1 hi1 l2 A2 n2 c2 lo2 hi2 (w.alloc (.cells #[.int .i64 s0.f0, .int .i64 s0.f1, .slice A1 n1 c1, .slice A2 n2 c2, .slice A3 n3 c3, .int .i64 p4] 61)) h1 (r1.alloc _) b1 h2 (r2.alloc _) b2)
  clear r1 r2 r3 h1 h2 h3
  generalize mRun l1 l2 = M at CR ⊢
  generalize hml : M.length = k at CR ⊢
  clear hml
  go_enter Tryz.func30, Tryz.ntmps30
  go_wp2_with fail
  refine CR.out.mono ?_
  rintro e w1 ⟨A', c', rfl, hF, hb⟩
  have HF := Lib.hid (hF.mono (lo' := w.heap.size) (by simp) (Nat.le_refl _))
  have HB := Lib.hid (below_trans HB0.out hb (by simp))
  clear hF hb CR
  go_wp2_with fail
  go_ret
  exact ⟨A', c', rfl, HF.out, HB.out⟩
set_option maxHeartbeats 4000000 in
theorem spec_TabDocument (s0 : TSite) (l1 : List TNode) (A1 : Option Addr) (n1 c1 lo1 hi1 : Nat) (l2 : List TEdit) (A2 : Option Addr) (n2 c2 lo2 hi2 : Nat) (l3 : List Int) (A3 : Option Addr) (n3 c3 lo3 hi3 : Nat) (p4 : Int) (w : World) (b0 : Hid (TSite.fit s0)) (h1 : n1 ≤ 1048576) (r1 : Rd w lo1 hi1 5 A1 n1 (cNode l1)) (b1 : Hid (cNodeOk l1)) (h2 : n2 ≤ 1048576) (r2 : Rd w lo2 hi2 6 A2 n2 (cEdit l2)) (b2 : Hid (cEditOk l2)) (h3 : n3 ≤ 1048576) (r3 : Rd w lo3 hi3 1 A3 n3 (i64s l3)) (b3 : Hid (I64s l3)) :
    Calls Tryz.prog 21 #[.agg #[.int .i64 s0.f0, .int .i64 s0.f1, .slice A1 n1 c1, .slice A2 n2 c2, .slice A3 n3 c3, .int .i64 p4]] w (Makes 70 5 (mRun l1 l2).length (cNode (mRun l1 l2)) w) := by
  have HB0 := Lib.hid ((Below.refl w.heap.size w).alloc (Nat.le_refl _) (.cells #[.int .i64 s0.f0, .int .i64 s0.f1, .slice A1 n1 c1, .slice A2 n2 c2, .slice A3 n3 c3, .int .i64 p4] 61))
  have CR := Lib.hid (spec_RunEdits l1 A1 n1 c1 lo1 hi1 l2 A2 n2 c2 lo2 hi2 (w.alloc (.cells #[.int .i64 s0.f0, .int .i64 s0.f1, .slice A1 n1 c1, .slice A2 n2 c2, .slice A3 n3 c3, .int .i64 p4] 61)) h1 (r1.alloc _) b1 h2 (r2.alloc _) b2)
  clear r1 r2 r3 h1 h2 h3
  generalize mRun l1 l2 = M at CR ⊢
  generalize hml : M.length = k at CR ⊢
  clear hml
  go_enter Tryz.func21, Tryz.ntmps21
  go_wp2_with fail
  refine CR.out.mono ?_
  rintro e w1 ⟨A', c', rfl, hF, hb⟩
  have HF := Lib.hid (hF.mono (lo' := w.heap.size) (by simp) (Nat.le_refl _))
  have HB := Lib.hid (below_trans HB0.out hb (by simp))
  clear hF hb CR
  go_wp2_with fail
  go_ret
  exact ⟨A', c', rfl, HF.out, HB.out⟩
end Go.Proofs.YtjgcgipglmhgeaaGreat
