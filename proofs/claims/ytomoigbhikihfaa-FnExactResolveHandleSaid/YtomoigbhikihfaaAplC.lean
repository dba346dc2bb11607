/- What an addition makes of a page of a document. No condition but the length. -/
import Derived.Test.YtomoigbhikihfaaAplB
namespace Go.Proofs.Ytomoigbhikihfaa
open Go Go.ChangeShapes Go.WideShapes Go.ChangeAt Go.RowKit Go.Lib
set_option linter.unusedVariables false
set_option linter.unusedSimpArgs false
set_option maxRecDepth 100000

theorem rd_box5 {w : World} {g : Nat} {t : TypeId} {cs : Array Value} (h : BoxAt w g t cs) (hn : cs.size = 5) : Rd w g (g + 1) 5 (some ⟨g, 0, none⟩) 1 cs.toList :=
  ⟨by simpa using hn, fun _ => ⟨g, 0, rfl, Nat.le_refl _, by omega, fun j u hu => by rw [Nat.zero_add]; exact h.at_ (by simpa using hu)⟩⟩
theorem clone_base (base : Nat) (l : List TNode) (A : Option Addr) (n c lo hi : Nat) (w : World) (hb : base ≤ w.heap.size) (hn : n ≤ 1048576) (hr : Rd w lo hi 5 A n (cNode l)) :
    Calls Try.prog 54 #[.slice A n c] w (fun e w' => ∃ v, e = .returned v ∧ w'.ownsRow base 54 5 v n (cNode l) ∧ Below w.heap.size w w') :=
  (clone_Node l A n c lo hi w hn hr).mono fun _ _ ⟨v, he, ho, h⟩ => ⟨v, he, own_base ho hb, h⟩
theorem one_node (e : TEdit) : ∀ u ∈ (#[.int .i64 e.f1, .int .i64 e.f2, .int .i64 e.f3, .int .i64 e.f4, .int .i64 e.f5] : Array Value).toList, u.oneCell' = true := by
  intro u hu
  simp only [List.mem_cons, List.not_mem_nil, or_false] at hu
  rcases hu with rfl | rfl | rfl | rfl | rfl <;> rfl
set_option maxHeartbeats 16000000 in
theorem add_apply (e : TEdit) (l : List TNode) (A : Option Addr) (n c lo hi B m : Nat) (w : World) (hn : n ≤ 16) (hr : Rd w lo hi 5 A n (cNode l)) (hok : Hid (cNodeOk l)) (he : Hid (TEdit.fit e)) (hM : MapAt w B m (idx l)) (hdoc : mIsDoc l = true) :
    Calls Try.prog 101 #[.agg #[.int .i64 e.f0, .int .i64 e.f1, .int .i64 e.f2, .int .i64 e.f3, .int .i64 e.f4, .int .i64 e.f5], .agg #[.slice A n c, .map (some B)]] w (Gives (mAdd l e) w) := by
  have HL := Lib.hid (rd_len TNode.len hr (by decide))
  have HD := Lib.hid hdoc
  have HR0 := Lib.hid (hr.old (by decide))
  have HR := Lib.hid (((hr.old (by decide)).alloc (.cells #[.int .i64 e.f0, .int .i64 e.f1, .int .i64 e.f2, .int .i64 e.f3, .int .i64 e.f4, .int .i64 e.f5] 99)).alloc (.cells #[.slice A n c, .map (some B)] 59))
  have HM := Lib.hid ((hM.alloc_ (.cells #[.int .i64 e.f0, .int .i64 e.f1, .int .i64 e.f2, .int .i64 e.f3, .int .i64 e.f4, .int .i64 e.f5] 99)).alloc_ (.cells #[.slice A n c, .map (some B)] 59))
  have KB := Lib.hid ((box_new w 99 #[.int .i64 e.f0, .int .i64 e.f1, .int .i64 e.f2, .int .i64 e.f3, .int .i64 e.f4, .int .i64 e.f5]).alloc_ (.cells #[.slice A n c, .map (some B)] 59))
  have KP : Hid (BoxAt ((w.alloc (.cells #[.int .i64 e.f0, .int .i64 e.f1, .int .i64 e.f2, .int .i64 e.f3, .int .i64 e.f4, .int .i64 e.f5] 99)).alloc (.cells #[.slice A n c, .map (some B)] 59)) (w.heap.size + 1) 59 #[.slice A n c, .map (some B)]) := Lib.hid (by simpa using box_new (w.alloc (.cells #[.int .i64 e.f0, .int .i64 e.f1, .int .i64 e.f2, .int .i64 e.f3, .int .i64 e.f4, .int .i64 e.f5] 99)) 59 #[.slice A n c, .map (some B)])
  have HB0 := Lib.hid (((Below.refl w.heap.size w).alloc (Nat.le_refl _) (.cells #[.int .i64 e.f0, .int .i64 e.f1, .int .i64 e.f2, .int .i64 e.f3, .int .i64 e.f4, .int .i64 e.f5] 99)).alloc (by simp) (.cells #[.slice A n c, .map (some B)] 59))
  have W1 := Lib.hid (show (Lit.int .i64 e.f1).wf = true from WalkArith.wf_i64 he.out.2.1)
  have W2 := Lib.hid (show (Lit.int .i64 e.f2).wf = true from WalkArith.wf_i64 he.out.2.2.1)
  have KL1 : Hid (BoxAt (((w.alloc (.cells #[.int .i64 e.f0, .int .i64 e.f1, .int .i64 e.f2, .int .i64 e.f3, .int .i64 e.f4, .int .i64 e.f5] 99)).alloc (.cells #[.slice A n c, .map (some B)] 59)).alloc (.cells #[.int .i64 e.f1] 3)) (w.heap.size + 1 + 1) 3 #[.int .i64 e.f1]) := Lib.hid (by simpa using box_new ((w.alloc (.cells #[.int .i64 e.f0, .int .i64 e.f1, .int .i64 e.f2, .int .i64 e.f3, .int .i64 e.f4, .int .i64 e.f5] 99)).alloc (.cells #[.slice A n c, .map (some B)] 59)) 3 #[.int .i64 e.f1])
  have KL2 : Hid (BoxAt (((w.alloc (.cells #[.int .i64 e.f0, .int .i64 e.f1, .int .i64 e.f2, .int .i64 e.f3, .int .i64 e.f4, .int .i64 e.f5] 99)).alloc (.cells #[.slice A n c, .map (some B)] 59)).alloc (.cells #[.int .i64 e.f1, .int .i64 e.f2] 3)) (w.heap.size + 1 + 1) 3 #[.int .i64 e.f1, .int .i64 e.f2]) := Lib.hid (by simpa using box_new ((w.alloc (.cells #[.int .i64 e.f0, .int .i64 e.f1, .int .i64 e.f2, .int .i64 e.f3, .int .i64 e.f4, .int .i64 e.f5] 99)).alloc (.cells #[.slice A n c, .map (some B)] 59)) 3 #[.int .i64 e.f1, .int .i64 e.f2])
  clear hr hM hdoc
  cases h1 : (idx l e.f1).isSome with
  | true =>
    have HE := Lib.hid (show mAdd l e = none by unfold mAdd mayAdd; simp [h1])
    go_enter Try.func101, Try.ntmps101
    go_wp2_with fail
    refine (page_has1 l A n c B m e.f1 _ _ (HM.out.alloc_ _) W1.out (KL1.out.at_ rfl)).mono ?_
    rintro e1 w1 ⟨rfl, hb⟩
    rw [h1]
    have HB1 := Lib.hid (below_trans (HB0.out.alloc (by simp <;> omega) (.cells #[.int .i64 e.f1] 3)) hb (by simp <;> omega))
    have KB1 := Lib.hid ((KB.out.alloc_ (.cells #[.int .i64 e.f1] 3)).new hb)
    have KP1 := Lib.hid ((KP.out.alloc_ (.cells #[.int .i64 e.f1] 3)).new hb)
    have HM1 := Lib.hid ((HM.out.alloc_ (.cells #[.int .i64 e.f1] 3)).new hb)
    have HR1 := Lib.hid ((HR.out.alloc (.cells #[.int .i64 e.f1] 3)).new hb)
    have hs1 : w.heap.size + 2 < w1.heap.size := by have := hb.size; simp at this; omega
    clear hb KB KP HM HR HB0 KL1 KL2
    have k0 := KB1.out.at_ (j := 0) rfl
    have k1 := KB1.out.at_ (j := 1) rfl
    have k2 := KB1.out.at_ (j := 2) rfl
    have k3 := KB1.out.at_ (j := 3) rfl
    have k4 := KB1.out.at_ (j := 4) rfl
    have k5 := KB1.out.at_ (j := 5) rfl
    have p0 := KP1.out.at_ (j := 0) rfl
    have p1 := KP1.out.at_ (j := 1) rfl
    go_wp2_with fail
    go_ret2
    rw [HE.out]
    exact gives_none HB1.out
  | false =>
    cases h2 : (idx l e.f2).isSome with
    | false =>
      have HE := Lib.hid (show mAdd l e = none by unfold mAdd mayAdd; simp [h2])
      go_enter Try.func101, Try.ntmps101
      go_wp2_with fail
      refine (page_has1 l A n c B m e.f1 _ _ (HM.out.alloc_ _) W1.out (KL1.out.at_ rfl)).mono ?_
      rintro e1 w1 ⟨rfl, hb⟩
      rw [h1]
      have HB1 := Lib.hid (below_trans (HB0.out.alloc (by simp <;> omega) (.cells #[.int .i64 e.f1] 3)) hb (by simp <;> omega))
      have KB1 := Lib.hid ((KB.out.alloc_ (.cells #[.int .i64 e.f1] 3)).new hb)
      have KP1 := Lib.hid ((KP.out.alloc_ (.cells #[.int .i64 e.f1] 3)).new hb)
      have HM1 := Lib.hid ((HM.out.alloc_ (.cells #[.int .i64 e.f1] 3)).new hb)
      have HR1 := Lib.hid ((HR.out.alloc (.cells #[.int .i64 e.f1] 3)).new hb)
      have hs1 : w.heap.size + 2 < w1.heap.size := by have := hb.size; simp at this; omega
      clear hb KB KP HM HR HB0 KL1 KL2
      have k0 := KB1.out.at_ (j := 0) rfl
      have k1 := KB1.out.at_ (j := 1) rfl
      have k2 := KB1.out.at_ (j := 2) rfl
      have k3 := KB1.out.at_ (j := 3) rfl
      have k4 := KB1.out.at_ (j := 4) rfl
      have k5 := KB1.out.at_ (j := 5) rfl
      have p0 := KP1.out.at_ (j := 0) rfl
      have p1 := KP1.out.at_ (j := 1) rfl
      go_wp2_with fail
      refine (page_has1 l A n c B m e.f2 w1.heap.size _ (HM1.out.alloc_ _) W2.out ((box_new w1 3 #[.int .i64 e.f2]).at_ rfl)).mono ?_
      rintro e2 w2 ⟨rfl, hb⟩
      rw [h2]
      have HB2 := Lib.hid (below_trans (HB1.out.alloc (by omega) (.cells #[.int .i64 e.f2] 3)) hb (by simp <;> omega))
      have KB2 := Lib.hid ((KB1.out.alloc_ (.cells #[.int .i64 e.f2] 3)).new hb)
      have KP2 := Lib.hid ((KP1.out.alloc_ (.cells #[.int .i64 e.f2] 3)).new hb)
      have HR2 := Lib.hid ((HR1.out.alloc (.cells #[.int .i64 e.f2] 3)).new hb)
      have hs2 : w.heap.size + 2 < w2.heap.size := by have := hb.size; simp at this; omega
      clear hb KB1 KP1 HM1 HR1 HB1 k0 k1 k2 k3 k4 k5 p0 p1
      have k0 := KB2.out.at_ (j := 0) rfl
      have k1 := KB2.out.at_ (j := 1) rfl
      have k2 := KB2.out.at_ (j := 2) rfl
      have k3 := KB2.out.at_ (j := 3) rfl
      have k4 := KB2.out.at_ (j := 4) rfl
      have k5 := KB2.out.at_ (j := 5) rfl
      have p0 := KP2.out.at_ (j := 0) rfl
      have p1 := KP2.out.at_ (j := 1) rfl
      go_wp2_with fail
      go_ret2
      rw [HE.out]
      exact gives_none HB2.out
    | true =>
      by_cases h3 : e.f1 < e.f2
      · have g3 : decide (e.f1 < e.f2) = true := by simpa using h3
        have HE := Lib.hid (show mAdd l e = none by unfold mAdd mayAdd; simp [h3])
        clear h3
        go_enter Try.func101, Try.ntmps101
        go_wp2_with fail
        refine (page_has1 l A n c B m e.f1 _ _ (HM.out.alloc_ _) W1.out (KL1.out.at_ rfl)).mono ?_
        rintro e1 w1 ⟨rfl, hb⟩
        rw [h1]
        have HB1 := Lib.hid (below_trans (HB0.out.alloc (by simp <;> omega) (.cells #[.int .i64 e.f1] 3)) hb (by simp <;> omega))
        have KB1 := Lib.hid ((KB.out.alloc_ (.cells #[.int .i64 e.f1] 3)).new hb)
        have KP1 := Lib.hid ((KP.out.alloc_ (.cells #[.int .i64 e.f1] 3)).new hb)
        have HM1 := Lib.hid ((HM.out.alloc_ (.cells #[.int .i64 e.f1] 3)).new hb)
        have HR1 := Lib.hid ((HR.out.alloc (.cells #[.int .i64 e.f1] 3)).new hb)
        have hs1 : w.heap.size + 2 < w1.heap.size := by have := hb.size; simp at this; omega
        clear hb KB KP HM HR HB0 KL1 KL2
        have k0 := KB1.out.at_ (j := 0) rfl
        have k1 := KB1.out.at_ (j := 1) rfl
        have k2 := KB1.out.at_ (j := 2) rfl
        have k3 := KB1.out.at_ (j := 3) rfl
        have k4 := KB1.out.at_ (j := 4) rfl
        have k5 := KB1.out.at_ (j := 5) rfl
        have p0 := KP1.out.at_ (j := 0) rfl
        have p1 := KP1.out.at_ (j := 1) rfl
        go_wp2_with fail
        refine (page_has1 l A n c B m e.f2 w1.heap.size _ (HM1.out.alloc_ _) W2.out ((box_new w1 3 #[.int .i64 e.f2]).at_ rfl)).mono ?_
        rintro e2 w2 ⟨rfl, hb⟩
        rw [h2]
        have HB2 := Lib.hid (below_trans (HB1.out.alloc (by omega) (.cells #[.int .i64 e.f2] 3)) hb (by simp <;> omega))
        have KB2 := Lib.hid ((KB1.out.alloc_ (.cells #[.int .i64 e.f2] 3)).new hb)
        have KP2 := Lib.hid ((KP1.out.alloc_ (.cells #[.int .i64 e.f2] 3)).new hb)
        have HR2 := Lib.hid ((HR1.out.alloc (.cells #[.int .i64 e.f2] 3)).new hb)
        have hs2 : w.heap.size + 2 < w2.heap.size := by have := hb.size; simp at this; omega
        clear hb KB1 KP1 HM1 HR1 HB1 k0 k1 k2 k3 k4 k5 p0 p1
        have k0 := KB2.out.at_ (j := 0) rfl
        have k1 := KB2.out.at_ (j := 1) rfl
        have k2 := KB2.out.at_ (j := 2) rfl
        have k3 := KB2.out.at_ (j := 3) rfl
        have k4 := KB2.out.at_ (j := 4) rfl
        have k5 := KB2.out.at_ (j := 5) rfl
        have p0 := KP2.out.at_ (j := 0) rfl
        have p1 := KP2.out.at_ (j := 1) rfl
        go_wp2_with fail
        go_ret2
        rw [HE.out]
        exact gives_none HB2.out
      · have g3 : decide (e.f1 < e.f2) = false := by simpa using h3
        by_cases h4 : 16 ≤ n
        · have g4 : decide ((16 : Int) ≤ (n : Int)) = true := by simp; omega
          have HE := Lib.hid (show mAdd l e = none by unfold mAdd mayAdd; simp [HL.out, h4])
          clear h3 h4
          go_enter Try.func101, Try.ntmps101
          go_wp2_with fail
          refine (page_has1 l A n c B m e.f1 _ _ (HM.out.alloc_ _) W1.out (KL1.out.at_ rfl)).mono ?_
          rintro e1 w1 ⟨rfl, hb⟩
          rw [h1]
          have HB1 := Lib.hid (below_trans (HB0.out.alloc (by simp <;> omega) (.cells #[.int .i64 e.f1] 3)) hb (by simp <;> omega))
          have KB1 := Lib.hid ((KB.out.alloc_ (.cells #[.int .i64 e.f1] 3)).new hb)
          have KP1 := Lib.hid ((KP.out.alloc_ (.cells #[.int .i64 e.f1] 3)).new hb)
          have HM1 := Lib.hid ((HM.out.alloc_ (.cells #[.int .i64 e.f1] 3)).new hb)
          have HR1 := Lib.hid ((HR.out.alloc (.cells #[.int .i64 e.f1] 3)).new hb)
          have hs1 : w.heap.size + 2 < w1.heap.size := by have := hb.size; simp at this; omega
          clear hb KB KP HM HR HB0 KL1 KL2
          have k0 := KB1.out.at_ (j := 0) rfl
          have k1 := KB1.out.at_ (j := 1) rfl
          have k2 := KB1.out.at_ (j := 2) rfl
          have k3 := KB1.out.at_ (j := 3) rfl
          have k4 := KB1.out.at_ (j := 4) rfl
          have k5 := KB1.out.at_ (j := 5) rfl
          have p0 := KP1.out.at_ (j := 0) rfl
          have p1 := KP1.out.at_ (j := 1) rfl
          go_wp2_with fail
          refine (page_has1 l A n c B m e.f2 w1.heap.size _ (HM1.out.alloc_ _) W2.out ((box_new w1 3 #[.int .i64 e.f2]).at_ rfl)).mono ?_
          rintro e2 w2 ⟨rfl, hb⟩
          rw [h2]
          have HB2 := Lib.hid (below_trans (HB1.out.alloc (by omega) (.cells #[.int .i64 e.f2] 3)) hb (by simp <;> omega))
          have KB2 := Lib.hid ((KB1.out.alloc_ (.cells #[.int .i64 e.f2] 3)).new hb)
          have KP2 := Lib.hid ((KP1.out.alloc_ (.cells #[.int .i64 e.f2] 3)).new hb)
          have HR2 := Lib.hid ((HR1.out.alloc (.cells #[.int .i64 e.f2] 3)).new hb)
          have hs2 : w.heap.size + 2 < w2.heap.size := by have := hb.size; simp at this; omega
          clear hb KB1 KP1 HM1 HR1 HB1 k0 k1 k2 k3 k4 k5 p0 p1
          have k0 := KB2.out.at_ (j := 0) rfl
          have k1 := KB2.out.at_ (j := 1) rfl
          have k2 := KB2.out.at_ (j := 2) rfl
          have k3 := KB2.out.at_ (j := 3) rfl
          have k4 := KB2.out.at_ (j := 4) rfl
          have k5 := KB2.out.at_ (j := 5) rfl
          have p0 := KP2.out.at_ (j := 0) rfl
          have p1 := KP2.out.at_ (j := 1) rfl
          go_wp2_with fail
          go_ret2
          rw [HE.out]
          exact gives_none HB2.out
        · have g4 : decide ((16 : Int) ≤ (n : Int)) = false := by simp; omega
          have HE := Lib.hid (show mAdd l e = some (insAt l e) by unfold mAdd mayAdd; simp [h1, h2, HL.out, h3, h4])
          have HN := Lib.hid h1
          clear h3 h4
          go_enter Try.func101, Try.ntmps101
          go_wp2_with fail
          refine (page_has1 l A n c B m e.f1 _ _ (HM.out.alloc_ _) W1.out (KL1.out.at_ rfl)).mono ?_
          rintro e1 w1 ⟨rfl, hb⟩
          rw [h1]
          have HB1 := Lib.hid (below_trans (HB0.out.alloc (by simp <;> omega) (.cells #[.int .i64 e.f1] 3)) hb (by simp <;> omega))
          have KB1 := Lib.hid ((KB.out.alloc_ (.cells #[.int .i64 e.f1] 3)).new hb)
          have KP1 := Lib.hid ((KP.out.alloc_ (.cells #[.int .i64 e.f1] 3)).new hb)
          have HM1 := Lib.hid ((HM.out.alloc_ (.cells #[.int .i64 e.f1] 3)).new hb)
          have HR1 := Lib.hid ((HR.out.alloc (.cells #[.int .i64 e.f1] 3)).new hb)
          have hs1 : w.heap.size + 2 < w1.heap.size := by have := hb.size; simp at this; omega
          clear hb KB KP HM HR HB0 KL1 KL2
          have k0 := KB1.out.at_ (j := 0) rfl
          have k1 := KB1.out.at_ (j := 1) rfl
          have k2 := KB1.out.at_ (j := 2) rfl
          have k3 := KB1.out.at_ (j := 3) rfl
          have k4 := KB1.out.at_ (j := 4) rfl
          have k5 := KB1.out.at_ (j := 5) rfl
          have p0 := KP1.out.at_ (j := 0) rfl
          have p1 := KP1.out.at_ (j := 1) rfl
          go_wp2_with fail
          refine (page_has1 l A n c B m e.f2 w1.heap.size _ (HM1.out.alloc_ _) W2.out ((box_new w1 3 #[.int .i64 e.f2]).at_ rfl)).mono ?_
          rintro e2 w2 ⟨rfl, hb⟩
          rw [h2]
          have HB2 := Lib.hid (below_trans (HB1.out.alloc (by omega) (.cells #[.int .i64 e.f2] 3)) hb (by simp <;> omega))
          have KB2 := Lib.hid ((KB1.out.alloc_ (.cells #[.int .i64 e.f2] 3)).new hb)
          have KP2 := Lib.hid ((KP1.out.alloc_ (.cells #[.int .i64 e.f2] 3)).new hb)
          have HR2 := Lib.hid ((HR1.out.alloc (.cells #[.int .i64 e.f2] 3)).new hb)
          have hs2 : w.heap.size + 2 < w2.heap.size := by have := hb.size; simp at this; omega
          clear hb KB1 KP1 HM1 HR1 HB1 k0 k1 k2 k3 k4 k5 p0 p1
          have k0 := KB2.out.at_ (j := 0) rfl
          have k1 := KB2.out.at_ (j := 1) rfl
          have k2 := KB2.out.at_ (j := 2) rfl
          have k3 := KB2.out.at_ (j := 3) rfl
          have k4 := KB2.out.at_ (j := 4) rfl
          have k5 := KB2.out.at_ (j := 5) rfl
          have p0 := KP2.out.at_ (j := 0) rfl
          have p1 := KP2.out.at_ (j := 1) rfl
          have KZ := box_new w2 54 #[.int .i64 0, .int .i64 0, .int .i64 0, .int .i64 0, .int .i64 0]
          have KX := Lib.hid (box_row (cs := #[.int .i64 e.f1, .int .i64 e.f2, .int .i64 e.f3, .int .i64 e.f4, .int .i64 e.f5]) KZ)
          have KPx := Lib.hid (box_far (cs := #[.int .i64 e.f1, .int .i64 e.f2, .int .i64 e.f3, .int .i64 e.f4, .int .i64 e.f5]) (g := w2.heap.size) (KP2.out.alloc_ (.cells #[.int .i64 0, .int .i64 0, .int .i64 0, .int .i64 0, .int .i64 0] 54)) (by omega))
          have HBx := Lib.hid (below_setRow (HB2.out.alloc (by omega) (.cells #[.int .i64 0, .int .i64 0, .int .i64 0, .int .i64 0, .int .i64 0] 54)) (show w.heap.size ≤ w2.heap.size by omega) #[.int .i64 e.f1, .int .i64 e.f2, .int .i64 e.f3, .int .i64 e.f4, .int .i64 e.f5])
          have HKZ := Lib.hid KZ
          clear KZ
          go_wp2_with (refine wpList_store_row rfl 54 _ _ rfl w2.heap.size #[.int .i64 e.f1, .int .i64 e.f2, .int .i64 e.f3, .int .i64 e.f4, .int .i64 e.f5] rfl rfl 54 _ HKZ.out (by kernel_rfl) (by kernel_rfl) (by kernel_rfl) ?_; generalize World.setRow (w2.alloc (.cells #[.int .i64 0, .int .i64 0, .int .i64 0, .int .i64 0, .int .i64 0] 54)) w2.heap.size #[.int .i64 e.f1, .int .i64 e.f2, .int .i64 e.f3, .int .i64 e.f4, .int .i64 e.f5] = w3 at KX KPx HBx ⊢)
          have HR3 := Lib.hid (HR0.out.below HBx.out (Nat.le_refl _))
          have hx3 := KX.out.lt
          refine wp_region_held_drew (S := fun w' => BoxAt w' (w.heap.size + 1) 59 #[.slice A n c, .map (some B)] ∧ BoxAt w' w2.heap.size 54 #[.int .i64 e.f1, .int .i64 e.f2, .int .i64 e.f3, .int .i64 e.f4, .int .i64 e.f5] ∧ Below w3.heap.size w3 w') (by kernel_rfl) ?_ (fun hHeld => ?_)
          · exact ⟨KPx.out.drw, KX.out.drw, (Below.refl _ _).drew⟩
          generalize (World.drew _) = x0 at hHeld ⊢
          refine wpAnyH_take (i := 0) (oi := ⟨some 45, _, _, _, _, _⟩) (v := ?_) rfl (by kernel_rfl) (by kernel_rfl) (by kernel_rfl) (fun _ _ _ h => h) (Or.inl ⟨by kernel_rfl, ?_⟩) hHeld ?_
          rotate_left
          focus (intro W hS; have c0_0 := (hS.1).at_ (j := 0) rfl; have c0_1 := (hS.1).at_ (j := 1) rfl; have c1_0 := (hS.2.1).at_ (j := 0) rfl; have c1_1 := (hS.2.1).at_ (j := 1) rfl; have c1_2 := (hS.2.1).at_ (j := 2) rfl; have c1_3 := (hS.2.1).at_ (j := 3) rfl; have c1_4 := (hS.2.1).at_ (j := 4) rfl; clear hS; first | (go_simp; done) | (go_simp; with_reducible rfl))
          try simp only [Act.put, List.setIfInBounds_toArray, List.set_cons_zero, List.set_cons_succ]
          refine wpAnyH_take (i := 1) (oi := ⟨some 46, _, _, _, _, _⟩) (v := ?_) rfl (by kernel_rfl) (by kernel_rfl) (by kernel_rfl) (fun _ _ _ h => h) (Or.inl ⟨by kernel_rfl, ?_⟩) hHeld ?_
          rotate_left
          focus (intro W hS; have c0_0 := (hS.1).at_ (j := 0) rfl; have c0_1 := (hS.1).at_ (j := 1) rfl; have c1_0 := (hS.2.1).at_ (j := 0) rfl; have c1_1 := (hS.2.1).at_ (j := 1) rfl; have c1_2 := (hS.2.1).at_ (j := 2) rfl; have c1_3 := (hS.2.1).at_ (j := 3) rfl; have c1_4 := (hS.2.1).at_ (j := 4) rfl; clear hS; first | (go_simp; done) | (go_simp; with_reducible rfl))
          try simp only [Act.put, List.setIfInBounds_toArray, List.set_cons_zero, List.set_cons_succ]
          refine wpAnyH_take (i := 3) (oi := ⟨some 48, _, _, _, _, _⟩) (v := ?_) rfl (by kernel_rfl) (by kernel_rfl) (by kernel_rfl) (fun _ _ _ h => h) (Or.inl ⟨by kernel_rfl, ?_⟩) hHeld ?_
          rotate_left
          focus (intro W hS; have c0_0 := (hS.1).at_ (j := 0) rfl; have c0_1 := (hS.1).at_ (j := 1) rfl; have c1_0 := (hS.2.1).at_ (j := 0) rfl; have c1_1 := (hS.2.1).at_ (j := 1) rfl; have c1_2 := (hS.2.1).at_ (j := 2) rfl; have c1_3 := (hS.2.1).at_ (j := 3) rfl; have c1_4 := (hS.2.1).at_ (j := 4) rfl; clear hS; first | (go_simp; done) | (go_simp; with_reducible rfl))
          try simp only [Act.put, List.setIfInBounds_toArray, List.set_cons_zero, List.set_cons_succ]
          refine wpAnyH_ready (rs := [2, 4]) (by kernel_rfl) (by simp) ?_
          refine AllReadyH.cons (o := ⟨some 47, _, _, _, _, _⟩) rfl (fun K hK => ?_) ?_
          · skip
            go_simp
            refine Calls.mono (clone_base w3.heap.size l A n c 0 w.heap.size _ hHeld.2.2.size (by omega) (HR3.out.new hHeld.2.2)) ?_
            rintro e x1 ⟨vK, rfl, GK, hb1⟩
            refine hK.out _ _ ⟨hHeld.1.new hb1, hHeld.2.1.new hb1, below_trans hHeld.2.2 hb1 (Nat.le_refl _)⟩ (fun hHeld' => ?_)
            clear hK K hHeld hb1
            have hHeld := hHeld'
            clear hHeld'
            try simp only [Act.put, List.setIfInBounds_toArray, List.set_cons_zero, List.set_cons_succ]
            refine wpAnyH_ready (rs := [4]) (by kernel_rfl) (by simp) ?_
            refine AllReadyH.cons (o := ⟨some 49, _, _, _, _, _⟩) rfl (fun K hK => ?_) AllReadyH.nil
            go_simp
            have Gb4 := box_new (x1) 54 #[.int .i64 e.f1, .int .i64 e.f2, .int .i64 e.f3, .int .i64 e.f4, .int .i64 e.f5]
            have hb1 := (Below.refl (x1).heap.size (x1)).alloc (Nat.le_refl _) (.cells #[.int .i64 e.f1, .int .i64 e.f2, .int .i64 e.f3, .int .i64 e.f4, .int .i64 e.f5] 54)
            have Lb4 : w3.heap.size ≤ (x1).heap.size := by have := (hHeld.1).lt; have := (hHeld.2.1).lt; have := (hHeld.2.2).size; omega
            have M0b4 : (w.heap.size + 1) < (x1).heap.size := (hHeld.1).lt
            have M1b4 : w2.heap.size < (x1).heap.size := (hHeld.2.1).lt
            replace GK := own_newer GK hb1
            generalize (x1).alloc (.cells #[.int .i64 e.f1, .int .i64 e.f2, .int .i64 e.f3, .int .i64 e.f4, .int .i64 e.f5] 54) = x2 at hb1 Gb4 GK ⊢
            generalize hg : (x1).heap.size = gb4 at Gb4 Lb4 M0b4 M1b4 ⊢
            clear hg
            refine hK.out _ _ ⟨hHeld.1.new hb1, hHeld.2.1.new hb1, below_trans hHeld.2.2 hb1 (Nat.le_refl _)⟩ (fun hHeld' => ?_)
            clear hK K hHeld hb1
            have hHeld := hHeld'
            clear hHeld'
            try simp only [Act.put, List.setIfInBounds_toArray, List.set_cons_zero, List.set_cons_succ]
            refine wpAnyH_ready (rs := [5]) (by kernel_rfl) (by simp) ?_
            refine AllReadyH.cons (o := ⟨some 50, _, _, _, _, _⟩) rfl (fun K hK => ?_) AllReadyH.nil
            refine step_appo rfl _ _ _ (by rfl) w3.heap.size 54 (.agg #[.int .i64 0, .int .i64 0, .int .i64 0, .int .i64 0, .int .i64 0]) 5 40 Try.underlying25 icNode rfl (by decide) vK (by rfl) (n) ((cNode l)) GK gb4 (gb4 + 1) (some ⟨gb4, 0, none⟩) 1 1 (#[.int .i64 e.f1, .int .i64 e.f2, .int .i64 e.f3, .int .i64 e.f4, .int .i64 e.f5] : Array Value).toList (by rfl) (rd_box5 Gb4 rfl) (one_node e) (by unfold maxLen; omega) (by omega) (by have := (hHeld.2.2).size; omega) ?_
            intro Vp x3 hO hb0 hgr
            have hsz0 := hb0.size
            clear Gb4
            have OWp := hO
            have hb1 := hb0.mono (show w3.heap.size ≤ w3.heap.size by omega)
            refine hK.out _ _ ⟨(by have := (hHeld.1).lt; exact hHeld.1.chg (chg_of_below hb0) (by omega)), (by have := (hHeld.2.1).lt; exact hHeld.2.1.chg (chg_of_below hb0) (by omega)), (hHeld.2.2).trans hb1⟩ (fun hHeld' => ?_)
            clear hK K hHeld hb1 hb0 hgr hO
            have hHeld := hHeld'
            clear hHeld'
            try simp only [Act.put, List.setIfInBounds_toArray, List.set_cons_zero, List.set_cons_succ]
            refine wpAnyH_take (i := 6) (oi := ⟨some 7, _, _, _, _, _⟩) (v := ?_) rfl (by kernel_rfl) (by kernel_rfl) (by kernel_rfl) (fun _ _ _ h => h) (Or.inl ⟨by kernel_rfl, ?_⟩) hHeld ?_
            rotate_left
            focus (intro W hS; have c0_0 := (hS.1).at_ (j := 0) rfl; have c0_1 := (hS.1).at_ (j := 1) rfl; have c1_0 := (hS.2.1).at_ (j := 0) rfl; have c1_1 := (hS.2.1).at_ (j := 1) rfl; have c1_2 := (hS.2.1).at_ (j := 2) rfl; have c1_3 := (hS.2.1).at_ (j := 3) rfl; have c1_4 := (hS.2.1).at_ (j := 4) rfl; clear hS; first | (go_simp; done) | (go_simp; with_reducible rfl))
            try simp only [Act.put, List.setIfInBounds_toArray, List.set_cons_zero, List.set_cons_succ]
            refine wpAnyH_done (by kernel_rfl) ?_ _
            obtain ⟨A4, c4, rfl, hF4⟩ := fr_of_own OWp
            have e4 : cNode l ++ (#[.int .i64 e.f1, .int .i64 e.f2, .int .i64 e.f3, .int .i64 e.f4, .int .i64 e.f5] : Array Value).toList = cNode (l ++ [nAdd e]) := by simp [cNode, TNode.cells, nAdd]
            rw [e4] at hF4
            have HF4 := Lib.hid hF4
            have HB4 := Lib.hid (HBx.out.trans (hHeld.2.2.mono HBx.out.size))
            have hs4 := HB4.out.size
            have hs3 := HBx.out.size
            clear hF4 OWp hHeld GK
            go_wp2_with fail
            refine (sortN_fr (l ++ [nAdd e]) A4 (n + 1) c4 w3.heap.size _ _ (by omega) (by omega) HF4.out).mono ?_
            rintro e5 w5 ⟨rfl, d, hp, hs, hF5, hc5⟩
            have hd : d = insAt l e := ins_one HD.out HN.out hp hs
            subst hd
            have HF5 := Lib.hid (hF5.mono (lo' := w.heap.size) (hi' := w5.heap.size) hs3 hc5.size)
            have HB5 := Lib.hid (HB4.out.trans (hc5.below (.inl hs3) hs4))
            clear hF5 hc5 hp hs
            go_wp2_with fail
            go_ret2
            rw [HE.out]
            exact gives_some (by rw [ins_len, HL.out]) HF5.out HB5.out
          refine AllReadyH.cons (o := ⟨some 49, _, _, _, _, _⟩) rfl (fun K hK => ?_) ?_
          · skip
            go_simp
            have Gb4 := box_new (x0) 54 #[.int .i64 e.f1, .int .i64 e.f2, .int .i64 e.f3, .int .i64 e.f4, .int .i64 e.f5]
            have hb1 := (Below.refl (x0).heap.size (x0)).alloc (Nat.le_refl _) (.cells #[.int .i64 e.f1, .int .i64 e.f2, .int .i64 e.f3, .int .i64 e.f4, .int .i64 e.f5] 54)
            have Lb4 : w3.heap.size ≤ (x0).heap.size := by have := (hHeld.1).lt; have := (hHeld.2.1).lt; have := (hHeld.2.2).size; omega
            have M0b4 : (w.heap.size + 1) < (x0).heap.size := (hHeld.1).lt
            have M1b4 : w2.heap.size < (x0).heap.size := (hHeld.2.1).lt
            generalize (x0).alloc (.cells #[.int .i64 e.f1, .int .i64 e.f2, .int .i64 e.f3, .int .i64 e.f4, .int .i64 e.f5] 54) = x1 at hb1 Gb4  ⊢
            generalize hg : (x0).heap.size = gb4 at Gb4 Lb4 M0b4 M1b4 ⊢
            clear hg
            refine hK.out _ _ ⟨hHeld.1.new hb1, hHeld.2.1.new hb1, below_trans hHeld.2.2 hb1 (Nat.le_refl _)⟩ (fun hHeld' => ?_)
            clear hK K hHeld hb1
            have hHeld := hHeld'
            clear hHeld'
            try simp only [Act.put, List.setIfInBounds_toArray, List.set_cons_zero, List.set_cons_succ]
            refine wpAnyH_ready (rs := [2]) (by kernel_rfl) (by simp) ?_
            refine AllReadyH.cons (o := ⟨some 47, _, _, _, _, _⟩) rfl (fun K hK => ?_) AllReadyH.nil
            go_simp
            refine Calls.mono (clone_base w3.heap.size l A n c 0 w.heap.size _ hHeld.2.2.size (by omega) (HR3.out.new hHeld.2.2)) ?_
            rintro e x2 ⟨vK, rfl, GK, hb1⟩
            replace Gb4 := Gb4.new hb1
            refine hK.out _ _ ⟨hHeld.1.new hb1, hHeld.2.1.new hb1, below_trans hHeld.2.2 hb1 (Nat.le_refl _)⟩ (fun hHeld' => ?_)
            clear hK K hHeld hb1
            have hHeld := hHeld'
            clear hHeld'
            try simp only [Act.put, List.setIfInBounds_toArray, List.set_cons_zero, List.set_cons_succ]
            refine wpAnyH_ready (rs := [5]) (by kernel_rfl) (by simp) ?_
            refine AllReadyH.cons (o := ⟨some 50, _, _, _, _, _⟩) rfl (fun K hK => ?_) AllReadyH.nil
            refine step_appo rfl _ _ _ (by rfl) w3.heap.size 54 (.agg #[.int .i64 0, .int .i64 0, .int .i64 0, .int .i64 0, .int .i64 0]) 5 40 Try.underlying25 icNode rfl (by decide) vK (by rfl) (n) ((cNode l)) GK gb4 (gb4 + 1) (some ⟨gb4, 0, none⟩) 1 1 (#[.int .i64 e.f1, .int .i64 e.f2, .int .i64 e.f3, .int .i64 e.f4, .int .i64 e.f5] : Array Value).toList (by rfl) (rd_box5 Gb4 rfl) (one_node e) (by unfold maxLen; omega) (by omega) (by have := (hHeld.2.2).size; omega) ?_
            intro Vp x3 hO hb0 hgr
            have hsz0 := hb0.size
            clear Gb4
            have OWp := hO
            have hb1 := hb0.mono (show w3.heap.size ≤ w3.heap.size by omega)
            refine hK.out _ _ ⟨(by have := (hHeld.1).lt; exact hHeld.1.chg (chg_of_below hb0) (by omega)), (by have := (hHeld.2.1).lt; exact hHeld.2.1.chg (chg_of_below hb0) (by omega)), (hHeld.2.2).trans hb1⟩ (fun hHeld' => ?_)
            clear hK K hHeld hb1 hb0 hgr hO
            have hHeld := hHeld'
            clear hHeld'
            try simp only [Act.put, List.setIfInBounds_toArray, List.set_cons_zero, List.set_cons_succ]
            refine wpAnyH_take (i := 6) (oi := ⟨some 7, _, _, _, _, _⟩) (v := ?_) rfl (by kernel_rfl) (by kernel_rfl) (by kernel_rfl) (fun _ _ _ h => h) (Or.inl ⟨by kernel_rfl, ?_⟩) hHeld ?_
            rotate_left
            focus (intro W hS; have c0_0 := (hS.1).at_ (j := 0) rfl; have c0_1 := (hS.1).at_ (j := 1) rfl; have c1_0 := (hS.2.1).at_ (j := 0) rfl; have c1_1 := (hS.2.1).at_ (j := 1) rfl; have c1_2 := (hS.2.1).at_ (j := 2) rfl; have c1_3 := (hS.2.1).at_ (j := 3) rfl; have c1_4 := (hS.2.1).at_ (j := 4) rfl; clear hS; first | (go_simp; done) | (go_simp; with_reducible rfl))
            try simp only [Act.put, List.setIfInBounds_toArray, List.set_cons_zero, List.set_cons_succ]
            refine wpAnyH_done (by kernel_rfl) ?_ _
            obtain ⟨A4, c4, rfl, hF4⟩ := fr_of_own OWp
            have e4 : cNode l ++ (#[.int .i64 e.f1, .int .i64 e.f2, .int .i64 e.f3, .int .i64 e.f4, .int .i64 e.f5] : Array Value).toList = cNode (l ++ [nAdd e]) := by simp [cNode, TNode.cells, nAdd]
            rw [e4] at hF4
            have HF4 := Lib.hid hF4
            have HB4 := Lib.hid (HBx.out.trans (hHeld.2.2.mono HBx.out.size))
            have hs4 := HB4.out.size
            have hs3 := HBx.out.size
            clear hF4 OWp hHeld GK
            go_wp2_with fail
            refine (sortN_fr (l ++ [nAdd e]) A4 (n + 1) c4 w3.heap.size _ _ (by omega) (by omega) HF4.out).mono ?_
            rintro e5 w5 ⟨rfl, d, hp, hs, hF5, hc5⟩
            have hd : d = insAt l e := ins_one HD.out HN.out hp hs
            subst hd
            have HF5 := Lib.hid (hF5.mono (lo' := w.heap.size) (hi' := w5.heap.size) hs3 hc5.size)
            have HB5 := Lib.hid (HB4.out.trans (hc5.below (.inl hs3) hs4))
            clear hF5 hc5 hp hs
            go_wp2_with fail
            go_ret2
            rw [HE.out]
            exact gives_some (by rw [ins_len, HL.out]) HF5.out HB5.out
          exact AllReadyH.nil
end Go.Proofs.Ytomoigbhikihfaa
