/- ApplyEdit and RunEdits of the model. No condition but the length. -/
import Derived.Test.YtomoigbhikihfaaAplS
import Derived.Test.YtomoigbhikihfaaEEdit
namespace Go.Proofs.Ytomoigbhikihfaa
open Go Go.ChangeShapes Go.WideShapes Go.ChangeAt Go.RowKit Go.Lib
set_option linter.unusedVariables false
set_option linter.unusedSimpArgs false
set_option maxRecDepth 100000

theorem makesq_none {l : List TNode} {r : Option (List TNode)} (h : r = none) {w : World} {e : Ending} {w' : World} (hm : MakesQ l false w e w') : MakesQ (r.getD l) r.isSome w e w' := by subst h; exact hm
theorem makesq_some {l m : List TNode} {r : Option (List TNode)} (h : r = some m) {w : World} {e : Ending} {w' : World} (hm : MakesQ m true w e w') : MakesQ (r.getD l) r.isSome w e w' := by subst h; exact hm
set_option maxHeartbeats 16000000 in
theorem spec_apply_no (e : TEdit) (l : List TNode) (A : Option Addr) (n c lo hi : Nat) (w : World) (hn : n ≤ 1048576) (hr : Rd w lo hi 5 A n (cNode l)) (hcap : n ≤ c) (hok : Hid (cNodeOk l)) (he : Hid (TEdit.fit e)) (hno : (mIsDoc l && mIsEdit e) = false) :
    Calls Try.prog 53 #[.slice A n c, .agg #[.int .i64 e.f0, .int .i64 e.f1, .int .i64 e.f2, .int .i64 e.f3, .int .i64 e.f4, .int .i64 e.f5]] w (MakesQ ((mEdited l e).getD l) (mEdited l e).isSome w) := by
  have HL := Lib.hid (rd_len TNode.len hr (by decide))
  have HR0 := Lib.hid (hr.old (by decide))
  have HC := Lib.hid hcap
  have KB0 := Lib.hid (box_new w 40 #[.int .i64 e.f0, .int .i64 e.f1, .int .i64 e.f2, .int .i64 e.f3, .int .i64 e.f4, .int .i64 e.f5])
  have HB0 := Lib.hid ((Below.refl w.heap.size w).alloc (Nat.le_refl _) (.cells #[.int .i64 e.f0, .int .i64 e.f1, .int .i64 e.f2, .int .i64 e.f3, .int .i64 e.f4, .int .i64 e.f5] 40))
  clear hr hcap
  have HE := Lib.hid (show mEdited l e = none by unfold mEdited; rw [if_neg (by rw [hno]; decide)])
  have C2 := Lib.hid (fun W => spec_IsEdit e W he)
  by_cases hd : mIsDoc l = true
  · have hi2 : mIsEdit e = false := by rw [hd, Bool.true_and] at hno; exact hno
    clear hno
    go_enter Try.func53, Try.ntmps53
    go_wp2_with fail
    refine (spec_IsDocument' l A n c 0 w.heap.size _ (by omega) HC.out (HR0.out.alloc _)).mono ?_
    rintro e1 w1 ⟨rfl, hb⟩
    rw [hd]
    have HB1 := Lib.hid (below_trans HB0.out hb (by simp))
    have KB1 := Lib.hid (KB0.out.new hb)
    have k0 := KB1.out.at_ (j := 0) rfl
    have k1 := KB1.out.at_ (j := 1) rfl
    have k2 := KB1.out.at_ (j := 2) rfl
    have k3 := KB1.out.at_ (j := 3) rfl
    have k4 := KB1.out.at_ (j := 4) rfl
    have k5 := KB1.out.at_ (j := 5) rfl
    clear hb
    go_wp2_with fail
    refine (C2.out _).mono ?_
    rintro e2 w2 ⟨rfl, hb⟩
    rw [hi2]
    have HB2 := Lib.hid (below_trans HB1.out hb (Nat.le_refl _))
    have KB2 := Lib.hid (KB1.out.new hb)
    clear k0 k1 k2 k3 k4 k5
    have k0 := KB2.out.at_ (j := 0) rfl
    have k1 := KB2.out.at_ (j := 1) rfl
    have k2 := KB2.out.at_ (j := 2) rfl
    have k3 := KB2.out.at_ (j := 3) rfl
    have k4 := KB2.out.at_ (j := 4) rfl
    have k5 := KB2.out.at_ (j := 5) rfl
    clear hb
    go_wp2_with fail
    refine (l5_copy l A n c 0 w.heap.size _ hn (HR0.out.below HB2.out (Nat.le_refl _))).mono ?_
    rintro e3 w3 ⟨v, rfl, ho, hb⟩
    have HO := Lib.hid ho
    have HB3 := Lib.hid (below_trans HB2.out hb (Nat.le_refl _))
    have hs3 := HB2.out.size
    clear ho hb
    go_wp2_with fail
    go_ret2
    exact makesq_none HE.out (makesq_of_own hs3 HO.out HL.out.symm HB3.out)
  · have hd : mIsDoc l = false := by simpa using hd
    clear hno
    go_enter Try.func53, Try.ntmps53
    go_wp2_with fail
    refine (spec_IsDocument' l A n c 0 w.heap.size _ (by omega) HC.out (HR0.out.alloc _)).mono ?_
    rintro e1 w1 ⟨rfl, hb⟩
    rw [hd]
    have HB1 := Lib.hid (below_trans HB0.out hb (by simp))
    have KB1 := Lib.hid (KB0.out.new hb)
    have k0 := KB1.out.at_ (j := 0) rfl
    have k1 := KB1.out.at_ (j := 1) rfl
    have k2 := KB1.out.at_ (j := 2) rfl
    have k3 := KB1.out.at_ (j := 3) rfl
    have k4 := KB1.out.at_ (j := 4) rfl
    have k5 := KB1.out.at_ (j := 5) rfl
    clear hb
    go_wp2_with fail
    refine (l5_copy l A n c 0 w.heap.size _ hn (HR0.out.below HB1.out (Nat.le_refl _))).mono ?_
    rintro e3 w3 ⟨v, rfl, ho, hb⟩
    have HO := Lib.hid ho
    have HB3 := Lib.hid (below_trans HB1.out hb (Nat.le_refl _))
    have hs3 := HB1.out.size
    clear ho hb
    go_wp2_with fail
    go_ret2
    exact makesq_none HE.out (makesq_of_own hs3 HO.out HL.out.symm HB3.out)
set_option maxHeartbeats 16000000 in
theorem spec_apply_add (a1 a2 a3 a4 a5 : Int) (l : List TNode) (A : Option Addr) (n c lo hi : Nat) (w : World) (hn : n ≤ 1048576) (hr : Rd w lo hi 5 A n (cNode l)) (hcap : n ≤ c) (hok : Hid (cNodeOk l)) (he : Hid (TEdit.fit (⟨1, a1, a2, a3, a4, a5⟩ : TEdit))) (hdoc : mIsDoc l = true) (hed : mIsEdit (⟨1, a1, a2, a3, a4, a5⟩ : TEdit) = true) :
    Calls Try.prog 53 #[.slice A n c, .agg #[.int .i64 1, .int .i64 a1, .int .i64 a2, .int .i64 a3, .int .i64 a4, .int .i64 a5]] w (MakesQ ((mAdd l (⟨1, a1, a2, a3, a4, a5⟩ : TEdit)).getD l) (mAdd l (⟨1, a1, a2, a3, a4, a5⟩ : TEdit)).isSome w) := by
  have HL := Lib.hid (rd_len TNode.len hr (by decide))
  have HR0 := Lib.hid (hr.old (by decide))
  have HC := Lib.hid hcap
  have KB0 := Lib.hid (box_new w 40 #[.int .i64 1, .int .i64 a1, .int .i64 a2, .int .i64 a3, .int .i64 a4, .int .i64 a5])
  have HB0 := Lib.hid ((Below.refl w.heap.size w).alloc (Nat.le_refl _) (.cells #[.int .i64 1, .int .i64 a1, .int .i64 a2, .int .i64 a3, .int .i64 a4, .int .i64 a5] 40))
  clear hr hcap
  have C2 : Hid (∀ W, Calls Try.prog 46 #[.agg #[.int .i64 1, .int .i64 a1, .int .i64 a2, .int .i64 a3, .int .i64 a4, .int .i64 a5]] W (Says (.bool true) W)) := Lib.hid (fun W => hed ▸ spec_IsEdit (⟨1, a1, a2, a3, a4, a5⟩ : TEdit) W he)
  clear hed
  go_enter Try.func53, Try.ntmps53
  go_wp2_with fail
  refine (spec_IsDocument' l A n c 0 w.heap.size _ (by omega) HC.out (HR0.out.alloc _)).mono ?_
  rintro e1 w1 ⟨rfl, hb⟩
  rw [hdoc]
  have HB1 := Lib.hid (below_trans HB0.out hb (by simp))
  have KB1 := Lib.hid (KB0.out.new hb)
  have k0 := KB1.out.at_ (j := 0) rfl
  have k1 := KB1.out.at_ (j := 1) rfl
  have k2 := KB1.out.at_ (j := 2) rfl
  have k3 := KB1.out.at_ (j := 3) rfl
  have k4 := KB1.out.at_ (j := 4) rfl
  have k5 := KB1.out.at_ (j := 5) rfl
  clear hb
  go_wp2_with fail
  refine (C2.out _).mono ?_
  rintro e2 w2 ⟨rfl, hb⟩
  have HB2 := Lib.hid (below_trans HB1.out hb (Nat.le_refl _))
  have KB2 := Lib.hid (KB1.out.new hb)
  clear k0 k1 k2 k3 k4 k5
  have k0 := KB2.out.at_ (j := 0) rfl
  have k1 := KB2.out.at_ (j := 1) rfl
  have k2 := KB2.out.at_ (j := 2) rfl
  have k3 := KB2.out.at_ (j := 3) rfl
  have k4 := KB2.out.at_ (j := 4) rfl
  have k5 := KB2.out.at_ (j := 5) rfl
  clear hb
  go_wp2_with fail
  refine (spec_NodeOf' l A n c 0 w.heap.size a1 _ (by omega) (HR0.out.below HB2.out (Nat.le_refl _))).mono ?_
  rintro e3 w3 ⟨rfl, rfl⟩
  go_wp2_with fail
  refine (l5_copy l A n c 0 w.heap.size _ hn (HR0.out.below HB2.out (Nat.le_refl _))).mono ?_
  rintro e4 w4 ⟨v4, rfl, ho, hb⟩
  have HO4 := Lib.hid ho
  have HB4 := Lib.hid (below_trans HB2.out hb (Nat.le_refl _))
  have KB4 := Lib.hid (KB2.out.new hb)
  have hs4 := HB2.out.size
  clear ho hb k0 k1 k2 k3 k4 k5
  have k0 := KB4.out.at_ (j := 0) rfl
  have k1 := KB4.out.at_ (j := 1) rfl
  have k2 := KB4.out.at_ (j := 2) rfl
  have k3 := KB4.out.at_ (j := 3) rfl
  have k4 := KB4.out.at_ (j := 4) rfl
  have k5 := KB4.out.at_ (j := 5) rfl
  go_wp2_with fail
  refine (spec_l5Add (⟨1, a1, a2, a3, a4, a5⟩ : TEdit) l A n c 0 w.heap.size _ hn (HR0.out.below HB4.out (Nat.le_refl _)) HC.out hdoc).mono ?_
  rintro e5 w5 ⟨A5, c5, rfl, hF5, hb5⟩
  have HF5 := Lib.hid (hF5.mono (lo' := w.heap.size) HB4.out.size (Nat.le_refl _))
  have HB5 := Lib.hid (below_trans HB4.out hb5 (Nat.le_refl _))
  clear hF5 hb5
  go_wp2_with fail
  go_ret2
  exact ⟨A5, c5, rfl, HF5.out, HB5.out⟩
set_option maxHeartbeats 16000000 in
theorem spec_apply_drop (a1 a2 a3 a4 a5 : Int) (l : List TNode) (A : Option Addr) (n c lo hi : Nat) (w : World) (hn : n ≤ 1048576) (hr : Rd w lo hi 5 A n (cNode l)) (hcap : n ≤ c) (hok : Hid (cNodeOk l)) (he : Hid (TEdit.fit (⟨2, a1, a2, a3, a4, a5⟩ : TEdit))) (hdoc : mIsDoc l = true) (hed : mIsEdit (⟨2, a1, a2, a3, a4, a5⟩ : TEdit) = true) :
    Calls Try.prog 53 #[.slice A n c, .agg #[.int .i64 2, .int .i64 a1, .int .i64 a2, .int .i64 a3, .int .i64 a4, .int .i64 a5]] w (MakesQ ((mDrop l a1).getD l) (mDrop l a1).isSome w) := by
  have HL := Lib.hid (rd_len TNode.len hr (by decide))
  have HR0 := Lib.hid (hr.old (by decide))
  have HC := Lib.hid hcap
  have KB0 := Lib.hid (box_new w 40 #[.int .i64 2, .int .i64 a1, .int .i64 a2, .int .i64 a3, .int .i64 a4, .int .i64 a5])
  have HB0 := Lib.hid ((Below.refl w.heap.size w).alloc (Nat.le_refl _) (.cells #[.int .i64 2, .int .i64 a1, .int .i64 a2, .int .i64 a3, .int .i64 a4, .int .i64 a5] 40))
  clear hr hcap
  have C2 : Hid (∀ W, Calls Try.prog 46 #[.agg #[.int .i64 2, .int .i64 a1, .int .i64 a2, .int .i64 a3, .int .i64 a4, .int .i64 a5]] W (Says (.bool true) W)) := Lib.hid (fun W => hed ▸ spec_IsEdit (⟨2, a1, a2, a3, a4, a5⟩ : TEdit) W he)
  clear hed
  go_enter Try.func53, Try.ntmps53
  go_wp2_with fail
  refine (spec_IsDocument' l A n c 0 w.heap.size _ (by omega) HC.out (HR0.out.alloc _)).mono ?_
  rintro e1 w1 ⟨rfl, hb⟩
  rw [hdoc]
  have HB1 := Lib.hid (below_trans HB0.out hb (by simp))
  have KB1 := Lib.hid (KB0.out.new hb)
  have k0 := KB1.out.at_ (j := 0) rfl
  have k1 := KB1.out.at_ (j := 1) rfl
  have k2 := KB1.out.at_ (j := 2) rfl
  have k3 := KB1.out.at_ (j := 3) rfl
  have k4 := KB1.out.at_ (j := 4) rfl
  have k5 := KB1.out.at_ (j := 5) rfl
  clear hb
  go_wp2_with fail
  refine (C2.out _).mono ?_
  rintro e2 w2 ⟨rfl, hb⟩
  have HB2 := Lib.hid (below_trans HB1.out hb (Nat.le_refl _))
  have KB2 := Lib.hid (KB1.out.new hb)
  clear k0 k1 k2 k3 k4 k5
  have k0 := KB2.out.at_ (j := 0) rfl
  have k1 := KB2.out.at_ (j := 1) rfl
  have k2 := KB2.out.at_ (j := 2) rfl
  have k3 := KB2.out.at_ (j := 3) rfl
  have k4 := KB2.out.at_ (j := 4) rfl
  have k5 := KB2.out.at_ (j := 5) rfl
  clear hb
  go_wp2_with fail
  refine (spec_NodeOf' l A n c 0 w.heap.size a1 _ (by omega) (HR0.out.below HB2.out (Nat.le_refl _))).mono ?_
  rintro e3 w3 ⟨rfl, rfl⟩
  go_wp2_with fail
  refine (l5_copy l A n c 0 w.heap.size _ hn (HR0.out.below HB2.out (Nat.le_refl _))).mono ?_
  rintro e4 w4 ⟨v4, rfl, ho, hb⟩
  have HO4 := Lib.hid ho
  have HB4 := Lib.hid (below_trans HB2.out hb (Nat.le_refl _))
  have KB4 := Lib.hid (KB2.out.new hb)
  have hs4 := HB2.out.size
  clear ho hb k0 k1 k2 k3 k4 k5
  have k0 := KB4.out.at_ (j := 0) rfl
  have k1 := KB4.out.at_ (j := 1) rfl
  have k2 := KB4.out.at_ (j := 2) rfl
  have k3 := KB4.out.at_ (j := 3) rfl
  have k4 := KB4.out.at_ (j := 4) rfl
  have k5 := KB4.out.at_ (j := 5) rfl
  go_wp2_with fail
  refine (spec_l5Drop a1 l A n c 0 w.heap.size _ hn (HR0.out.below HB4.out (Nat.le_refl _)) HC.out hok (WalkArith.wf_i64 he.out.2.1)).mono ?_
  rintro e5 w5 ⟨A5, c5, rfl, hF5, hb5⟩
  have HF5 := Lib.hid (hF5.mono (lo' := w.heap.size) HB4.out.size (Nat.le_refl _))
  have HB5 := Lib.hid (below_trans HB4.out hb5 (Nat.le_refl _))
  clear hF5 hb5
  go_wp2_with fail
  go_ret2
  exact ⟨A5, c5, rfl, HF5.out, HB5.out⟩
set_option maxHeartbeats 16000000 in
theorem spec_apply_text (a1 a2 a3 a4 a5 : Int) (l : List TNode) (A : Option Addr) (n c lo hi : Nat) (w : World) (hn : n ≤ 1048576) (hr : Rd w lo hi 5 A n (cNode l)) (hcap : n ≤ c) (hok : Hid (cNodeOk l)) (he : Hid (TEdit.fit (⟨3, a1, a2, a3, a4, a5⟩ : TEdit))) (hdoc : mIsDoc l = true) (hed : mIsEdit (⟨3, a1, a2, a3, a4, a5⟩ : TEdit) = true) :
    Calls Try.prog 53 #[.slice A n c, .agg #[.int .i64 3, .int .i64 a1, .int .i64 a2, .int .i64 a3, .int .i64 a4, .int .i64 a5]] w (MakesQ ((mText l (⟨3, a1, a2, a3, a4, a5⟩ : TEdit)).getD l) (mText l (⟨3, a1, a2, a3, a4, a5⟩ : TEdit)).isSome w) := by
  have HL := Lib.hid (rd_len TNode.len hr (by decide))
  have HR0 := Lib.hid (hr.old (by decide))
  have HC := Lib.hid hcap
  have KB0 := Lib.hid (box_new w 40 #[.int .i64 3, .int .i64 a1, .int .i64 a2, .int .i64 a3, .int .i64 a4, .int .i64 a5])
  have HB0 := Lib.hid ((Below.refl w.heap.size w).alloc (Nat.le_refl _) (.cells #[.int .i64 3, .int .i64 a1, .int .i64 a2, .int .i64 a3, .int .i64 a4, .int .i64 a5] 40))
  clear hr hcap
  have C2 : Hid (∀ W, Calls Try.prog 46 #[.agg #[.int .i64 3, .int .i64 a1, .int .i64 a2, .int .i64 a3, .int .i64 a4, .int .i64 a5]] W (Says (.bool true) W)) := Lib.hid (fun W => hed ▸ spec_IsEdit (⟨3, a1, a2, a3, a4, a5⟩ : TEdit) W he)
  clear hed
  cases h1 : (idx l a1).isSome with
  | true =>
    obtain ⟨v, hv⟩ := Option.isSome_iff_exists.1 h1
    obtain ⟨j, x, rfl, hjl, hx, _⟩ := idx_lt hv
    have gk := mNode_of hv
    have HX := Lib.hid hx
    have hjn : j < n := by have := HL.out; omega
    have g0 : decide ((j : Int) < 0) = false := by simp
    have HE := Lib.hid (show mText l (⟨3, a1, a2, a3, a4, a5⟩ : TEdit) = some (l.modify j (setText (⟨3, a1, a2, a3, a4, a5⟩ : TEdit))) by unfold mText; rw [if_pos h1, gk]; rfl)
    clear h1 hv hx hjl
    go_enter Try.func53, Try.ntmps53
    go_wp2_with fail
    refine (spec_IsDocument' l A n c 0 w.heap.size _ (by omega) HC.out (HR0.out.alloc _)).mono ?_
    rintro e1 w1 ⟨rfl, hb⟩
    rw [hdoc]
    have HB1 := Lib.hid (below_trans HB0.out hb (by simp))
    have KB1 := Lib.hid (KB0.out.new hb)
    have k0 := KB1.out.at_ (j := 0) rfl
    have k1 := KB1.out.at_ (j := 1) rfl
    have k2 := KB1.out.at_ (j := 2) rfl
    have k3 := KB1.out.at_ (j := 3) rfl
    have k4 := KB1.out.at_ (j := 4) rfl
    have k5 := KB1.out.at_ (j := 5) rfl
    clear hb
    go_wp2_with fail
    refine (C2.out _).mono ?_
    rintro e2 w2 ⟨rfl, hb⟩
    have HB2 := Lib.hid (below_trans HB1.out hb (Nat.le_refl _))
    have KB2 := Lib.hid (KB1.out.new hb)
    clear k0 k1 k2 k3 k4 k5
    have k0 := KB2.out.at_ (j := 0) rfl
    have k1 := KB2.out.at_ (j := 1) rfl
    have k2 := KB2.out.at_ (j := 2) rfl
    have k3 := KB2.out.at_ (j := 3) rfl
    have k4 := KB2.out.at_ (j := 4) rfl
    have k5 := KB2.out.at_ (j := 5) rfl
    clear hb
    go_wp2_with fail
    refine (spec_NodeOf' l A n c 0 w.heap.size a1 _ (by omega) (HR0.out.below HB2.out (Nat.le_refl _))).mono ?_
    rintro e3 w3 ⟨rfl, rfl⟩
    rw [gk]
    go_wp2_with fail
    refine (l5_copy l A n c 0 w.heap.size _ hn (HR0.out.below HB2.out (Nat.le_refl _))).mono ?_
    rintro e4 w4 ⟨v4, rfl, ho, hb⟩
    have HO4 := Lib.hid ho
    have HB4 := Lib.hid (below_trans HB2.out hb (Nat.le_refl _))
    have KB4 := Lib.hid (KB2.out.new hb)
    have hs4 := HB2.out.size
    clear ho hb k0 k1 k2 k3 k4 k5
    have k0 := KB4.out.at_ (j := 0) rfl
    have k1 := KB4.out.at_ (j := 1) rfl
    have k2 := KB4.out.at_ (j := 2) rfl
    have k3 := KB4.out.at_ (j := 3) rfl
    have k4 := KB4.out.at_ (j := 4) rfl
    have k5 := KB4.out.at_ (j := 5) rfl
    obtain ⟨A', c', rfl, hF⟩ := fr_of_own HO4.out
    obtain ⟨g, cap, rfl, h1, h2, h3, rfl, h5, f, hrow, hf⟩ := hF.row (by omega)
    have q3 := hrow.cell (i := j * 5 + 3) (by omega)
    have q4 := hrow.cell (i := j * 5 + 4) (by omega)
    have r3 := hrow.frozen (j * 5 + 3)
    have r4 := hrow.frozen (j * 5 + 4)
    have HRow := Lib.hid hrow
    have HF := Lib.hid hf
    have HBs := Lib.hid ((HB4.out.setCell (p := ⟨g, j * 5 + 3, none⟩) (show w.heap.size ≤ g by omega) (.int .i64 a4)).setCell (p := ⟨g, j * 5 + 4, none⟩) (show w.heap.size ≤ g by omega) (.int .i64 a5))
    have hgw : g ≠ w.heap.size := by have := KB2.out.lt; omega
    clear hrow hf hF
    go_wp2_with fail
    go_ret2
    refine makesq_some HE.out ⟨some ⟨g, 0, none⟩, c', ?_, ?_, HBs.out⟩
    · rw [List.length_modify, HL.out]; rfl
    · rw [List.length_modify, HL.out]
      exact fr_of_rowcap ((HRow.out.set (j * 5 + 3) (.int .i64 a4)).set (j * 5 + 4) (.int .i64 a5)) (by omega) (by simpa [World.setCell] using h2) h3 h5 (by rw [flat_len TNode.len, List.length_modify, HL.out]) (mod_row HX.out HF.out (by decide) rfl)
  | false =>
    have g0 : decide (mNodeOf l a1 < 0) = true := by have h := mNodeOf_neg h1; rw [decide_eq_true_eq]; omega
    have HE := Lib.hid (show mText l (⟨3, a1, a2, a3, a4, a5⟩ : TEdit) = none by unfold mText; rw [if_neg (by rw [h1]; decide)])
    clear h1
    go_enter Try.func53, Try.ntmps53
    go_wp2_with fail
    refine (spec_IsDocument' l A n c 0 w.heap.size _ (by omega) HC.out (HR0.out.alloc _)).mono ?_
    rintro e1 w1 ⟨rfl, hb⟩
    rw [hdoc]
    have HB1 := Lib.hid (below_trans HB0.out hb (by simp))
    have KB1 := Lib.hid (KB0.out.new hb)
    have k0 := KB1.out.at_ (j := 0) rfl
    have k1 := KB1.out.at_ (j := 1) rfl
    have k2 := KB1.out.at_ (j := 2) rfl
    have k3 := KB1.out.at_ (j := 3) rfl
    have k4 := KB1.out.at_ (j := 4) rfl
    have k5 := KB1.out.at_ (j := 5) rfl
    clear hb
    go_wp2_with fail
    refine (C2.out _).mono ?_
    rintro e2 w2 ⟨rfl, hb⟩
    have HB2 := Lib.hid (below_trans HB1.out hb (Nat.le_refl _))
    have KB2 := Lib.hid (KB1.out.new hb)
    clear k0 k1 k2 k3 k4 k5
    have k0 := KB2.out.at_ (j := 0) rfl
    have k1 := KB2.out.at_ (j := 1) rfl
    have k2 := KB2.out.at_ (j := 2) rfl
    have k3 := KB2.out.at_ (j := 3) rfl
    have k4 := KB2.out.at_ (j := 4) rfl
    have k5 := KB2.out.at_ (j := 5) rfl
    clear hb
    go_wp2_with fail
    refine (spec_NodeOf' l A n c 0 w.heap.size a1 _ (by omega) (HR0.out.below HB2.out (Nat.le_refl _))).mono ?_
    rintro e3 w3 ⟨rfl, rfl⟩
    go_wp2_with fail
    refine (l5_copy l A n c 0 w.heap.size _ hn (HR0.out.below HB2.out (Nat.le_refl _))).mono ?_
    rintro e4 w4 ⟨v4, rfl, ho, hb⟩
    have HO4 := Lib.hid ho
    have HB4 := Lib.hid (below_trans HB2.out hb (Nat.le_refl _))
    have KB4 := Lib.hid (KB2.out.new hb)
    have hs4 := HB2.out.size
    clear ho hb k0 k1 k2 k3 k4 k5
    have k0 := KB4.out.at_ (j := 0) rfl
    have k1 := KB4.out.at_ (j := 1) rfl
    have k2 := KB4.out.at_ (j := 2) rfl
    have k3 := KB4.out.at_ (j := 3) rfl
    have k4 := KB4.out.at_ (j := 4) rfl
    have k5 := KB4.out.at_ (j := 5) rfl
    have HBn := HB4.out
    go_wp2_with fail
    go_ret2
    exact makesq_none HE.out (makesq_of_own hs4 HO4.out HL.out.symm HBn)
set_option maxHeartbeats 16000000 in
theorem spec_apply_move (a1 a2 a3 a4 a5 : Int) (l : List TNode) (A : Option Addr) (n c lo hi : Nat) (w : World) (hn : n ≤ 1048576) (hr : Rd w lo hi 5 A n (cNode l)) (hcap : n ≤ c) (hok : Hid (cNodeOk l)) (he : Hid (TEdit.fit (⟨4, a1, a2, a3, a4, a5⟩ : TEdit))) (hdoc : mIsDoc l = true) (hed : mIsEdit (⟨4, a1, a2, a3, a4, a5⟩ : TEdit) = true) :
    Calls Try.prog 53 #[.slice A n c, .agg #[.int .i64 4, .int .i64 a1, .int .i64 a2, .int .i64 a3, .int .i64 a4, .int .i64 a5]] w (MakesQ ((mMove l (⟨4, a1, a2, a3, a4, a5⟩ : TEdit)).getD l) (mMove l (⟨4, a1, a2, a3, a4, a5⟩ : TEdit)).isSome w) := by
  have HL := Lib.hid (rd_len TNode.len hr (by decide))
  have HR0 := Lib.hid (hr.old (by decide))
  have HC := Lib.hid hcap
  have KB0 := Lib.hid (box_new w 40 #[.int .i64 4, .int .i64 a1, .int .i64 a2, .int .i64 a3, .int .i64 a4, .int .i64 a5])
  have HB0 := Lib.hid ((Below.refl w.heap.size w).alloc (Nat.le_refl _) (.cells #[.int .i64 4, .int .i64 a1, .int .i64 a2, .int .i64 a3, .int .i64 a4, .int .i64 a5] 40))
  clear hr hcap
  have C2 : Hid (∀ W, Calls Try.prog 46 #[.agg #[.int .i64 4, .int .i64 a1, .int .i64 a2, .int .i64 a3, .int .i64 a4, .int .i64 a5]] W (Says (.bool true) W)) := Lib.hid (fun W => hed ▸ spec_IsEdit (⟨4, a1, a2, a3, a4, a5⟩ : TEdit) W he)
  clear hed
  cases h1 : (idx l a1).isSome with
  | true =>
    obtain ⟨v, hv⟩ := Option.isSome_iff_exists.1 h1
    obtain ⟨j, x, rfl, hjl, hx, _⟩ := idx_lt hv
    have gk := mNode_of hv
    have HX := Lib.hid hx
    have hjn : j < n := by have := HL.out; omega
    have g0 : decide ((j : Int) < 0) = false := by simp
    cases h2 : (idx l a2).isSome with
    | true =>
      have g2 : decide (mNodeOf l a2 < 0) = false := by have h := mNodeOf_pos h2; rw [decide_eq_false_iff_not]; omega
      by_cases h3 : a2 < a1
      · have g3 : decide (a1 ≤ a2) = false := by rw [decide_eq_false_iff_not]; omega
        have HE := Lib.hid (show mMove l (⟨4, a1, a2, a3, a4, a5⟩ : TEdit) = some (l.modify j (setPar (⟨4, a1, a2, a3, a4, a5⟩ : TEdit))) by unfold mMove mayMove; rw [if_pos (by simp [h1, h2, h3]), gk]; rfl)
        clear h1 hv hx hjl h2 h3
        go_enter Try.func53, Try.ntmps53
        go_wp2_with fail
        refine (spec_IsDocument' l A n c 0 w.heap.size _ (by omega) HC.out (HR0.out.alloc _)).mono ?_
        rintro e1 w1 ⟨rfl, hb⟩
        rw [hdoc]
        have HB1 := Lib.hid (below_trans HB0.out hb (by simp))
        have KB1 := Lib.hid (KB0.out.new hb)
        have k0 := KB1.out.at_ (j := 0) rfl
        have k1 := KB1.out.at_ (j := 1) rfl
        have k2 := KB1.out.at_ (j := 2) rfl
        have k3 := KB1.out.at_ (j := 3) rfl
        have k4 := KB1.out.at_ (j := 4) rfl
        have k5 := KB1.out.at_ (j := 5) rfl
        clear hb
        go_wp2_with fail
        refine (C2.out _).mono ?_
        rintro e2 w2 ⟨rfl, hb⟩
        have HB2 := Lib.hid (below_trans HB1.out hb (Nat.le_refl _))
        have KB2 := Lib.hid (KB1.out.new hb)
        clear k0 k1 k2 k3 k4 k5
        have k0 := KB2.out.at_ (j := 0) rfl
        have k1 := KB2.out.at_ (j := 1) rfl
        have k2 := KB2.out.at_ (j := 2) rfl
        have k3 := KB2.out.at_ (j := 3) rfl
        have k4 := KB2.out.at_ (j := 4) rfl
        have k5 := KB2.out.at_ (j := 5) rfl
        clear hb
        go_wp2_with fail
        refine (spec_NodeOf' l A n c 0 w.heap.size a1 _ (by omega) (HR0.out.below HB2.out (Nat.le_refl _))).mono ?_
        rintro e3 w3 ⟨rfl, rfl⟩
        rw [gk]
        go_wp2_with fail
        refine (l5_copy l A n c 0 w.heap.size _ hn (HR0.out.below HB2.out (Nat.le_refl _))).mono ?_
        rintro e4 w4 ⟨v4, rfl, ho, hb⟩
        have HO4 := Lib.hid ho
        have HB4 := Lib.hid (below_trans HB2.out hb (Nat.le_refl _))
        have KB4 := Lib.hid (KB2.out.new hb)
        have hs4 := HB2.out.size
        clear ho hb k0 k1 k2 k3 k4 k5
        have k0 := KB4.out.at_ (j := 0) rfl
        have k1 := KB4.out.at_ (j := 1) rfl
        have k2 := KB4.out.at_ (j := 2) rfl
        have k3 := KB4.out.at_ (j := 3) rfl
        have k4 := KB4.out.at_ (j := 4) rfl
        have k5 := KB4.out.at_ (j := 5) rfl
        go_wp2_with fail
        refine (spec_NodeOf' l A n c 0 w.heap.size a2 _ (by omega) (HR0.out.below HB4.out (Nat.le_refl _))).mono ?_
        rintro e5 w5 ⟨rfl, rfl⟩
        obtain ⟨A', c', rfl, hF⟩ := fr_of_own HO4.out
        obtain ⟨g, cap, rfl, h1, h2, h3, rfl, h5, f, hrow, hf⟩ := hF.row (by omega)
        have q3 := hrow.cell (i := j * 5 + 1) (by omega)
        have q4 := hrow.cell (i := j * 5 + 4) (by omega)
        have r3 := hrow.frozen (j * 5 + 1)
        have r4 := hrow.frozen (j * 5 + 4)
        have HRow := Lib.hid hrow
        have HF := Lib.hid hf
        have HBs := Lib.hid ((HB4.out.setCell (p := ⟨g, j * 5 + 1, none⟩) (show w.heap.size ≤ g by omega) (.int .i64 a2)).setCell (p := ⟨g, j * 5 + 4, none⟩) (show w.heap.size ≤ g by omega) (.int .i64 a5))
        have hgw : g ≠ w.heap.size := by have := KB2.out.lt; omega
        clear hrow hf hF
        go_wp2_with fail
        go_ret2
        refine makesq_some HE.out ⟨some ⟨g, 0, none⟩, c', ?_, ?_, HBs.out⟩
        · rw [List.length_modify, HL.out]; rfl
        · rw [List.length_modify, HL.out]
          exact fr_of_rowcap ((HRow.out.set (j * 5 + 1) (.int .i64 a2)).set (j * 5 + 4) (.int .i64 a5)) (by omega) (by simpa [World.setCell] using h2) h3 h5 (by rw [flat_len TNode.len, List.length_modify, HL.out]) (mod_row HX.out HF.out (by decide) rfl)
      · have g3 : decide (a1 ≤ a2) = true := by rw [decide_eq_true_eq]; omega
        have HE := Lib.hid (show mMove l (⟨4, a1, a2, a3, a4, a5⟩ : TEdit) = none by unfold mMove mayMove; rw [if_neg (by simp [h3])])
        clear h1 hv hx hjl h2 h3
        go_enter Try.func53, Try.ntmps53
        go_wp2_with fail
        refine (spec_IsDocument' l A n c 0 w.heap.size _ (by omega) HC.out (HR0.out.alloc _)).mono ?_
        rintro e1 w1 ⟨rfl, hb⟩
        rw [hdoc]
        have HB1 := Lib.hid (below_trans HB0.out hb (by simp))
        have KB1 := Lib.hid (KB0.out.new hb)
        have k0 := KB1.out.at_ (j := 0) rfl
        have k1 := KB1.out.at_ (j := 1) rfl
        have k2 := KB1.out.at_ (j := 2) rfl
        have k3 := KB1.out.at_ (j := 3) rfl
        have k4 := KB1.out.at_ (j := 4) rfl
        have k5 := KB1.out.at_ (j := 5) rfl
        clear hb
        go_wp2_with fail
        refine (C2.out _).mono ?_
        rintro e2 w2 ⟨rfl, hb⟩
        have HB2 := Lib.hid (below_trans HB1.out hb (Nat.le_refl _))
        have KB2 := Lib.hid (KB1.out.new hb)
        clear k0 k1 k2 k3 k4 k5
        have k0 := KB2.out.at_ (j := 0) rfl
        have k1 := KB2.out.at_ (j := 1) rfl
        have k2 := KB2.out.at_ (j := 2) rfl
        have k3 := KB2.out.at_ (j := 3) rfl
        have k4 := KB2.out.at_ (j := 4) rfl
        have k5 := KB2.out.at_ (j := 5) rfl
        clear hb
        go_wp2_with fail
        refine (spec_NodeOf' l A n c 0 w.heap.size a1 _ (by omega) (HR0.out.below HB2.out (Nat.le_refl _))).mono ?_
        rintro e3 w3 ⟨rfl, rfl⟩
        rw [gk]
        go_wp2_with fail
        refine (l5_copy l A n c 0 w.heap.size _ hn (HR0.out.below HB2.out (Nat.le_refl _))).mono ?_
        rintro e4 w4 ⟨v4, rfl, ho, hb⟩
        have HO4 := Lib.hid ho
        have HB4 := Lib.hid (below_trans HB2.out hb (Nat.le_refl _))
        have KB4 := Lib.hid (KB2.out.new hb)
        have hs4 := HB2.out.size
        clear ho hb k0 k1 k2 k3 k4 k5
        have k0 := KB4.out.at_ (j := 0) rfl
        have k1 := KB4.out.at_ (j := 1) rfl
        have k2 := KB4.out.at_ (j := 2) rfl
        have k3 := KB4.out.at_ (j := 3) rfl
        have k4 := KB4.out.at_ (j := 4) rfl
        have k5 := KB4.out.at_ (j := 5) rfl
        go_wp2_with fail
        refine (spec_NodeOf' l A n c 0 w.heap.size a2 _ (by omega) (HR0.out.below HB4.out (Nat.le_refl _))).mono ?_
        rintro e5 w5 ⟨rfl, rfl⟩
        have HBn := HB4.out
        go_wp2_with fail
        go_ret2
        exact makesq_none HE.out (makesq_of_own hs4 HO4.out HL.out.symm HBn)
    | false =>
      have g2 : decide (mNodeOf l a2 < 0) = true := by have h := mNodeOf_neg h2; rw [decide_eq_true_eq]; omega
      have HE := Lib.hid (show mMove l (⟨4, a1, a2, a3, a4, a5⟩ : TEdit) = none by unfold mMove mayMove; rw [if_neg (by simp [h2])])
      clear h1 hv hx hjl h2
      go_enter Try.func53, Try.ntmps53
      go_wp2_with fail
      refine (spec_IsDocument' l A n c 0 w.heap.size _ (by omega) HC.out (HR0.out.alloc _)).mono ?_
      rintro e1 w1 ⟨rfl, hb⟩
      rw [hdoc]
      have HB1 := Lib.hid (below_trans HB0.out hb (by simp))
      have KB1 := Lib.hid (KB0.out.new hb)
      have k0 := KB1.out.at_ (j := 0) rfl
      have k1 := KB1.out.at_ (j := 1) rfl
      have k2 := KB1.out.at_ (j := 2) rfl
      have k3 := KB1.out.at_ (j := 3) rfl
      have k4 := KB1.out.at_ (j := 4) rfl
      have k5 := KB1.out.at_ (j := 5) rfl
      clear hb
      go_wp2_with fail
      refine (C2.out _).mono ?_
      rintro e2 w2 ⟨rfl, hb⟩
      have HB2 := Lib.hid (below_trans HB1.out hb (Nat.le_refl _))
      have KB2 := Lib.hid (KB1.out.new hb)
      clear k0 k1 k2 k3 k4 k5
      have k0 := KB2.out.at_ (j := 0) rfl
      have k1 := KB2.out.at_ (j := 1) rfl
      have k2 := KB2.out.at_ (j := 2) rfl
      have k3 := KB2.out.at_ (j := 3) rfl
      have k4 := KB2.out.at_ (j := 4) rfl
      have k5 := KB2.out.at_ (j := 5) rfl
      clear hb
      go_wp2_with fail
      refine (spec_NodeOf' l A n c 0 w.heap.size a1 _ (by omega) (HR0.out.below HB2.out (Nat.le_refl _))).mono ?_
      rintro e3 w3 ⟨rfl, rfl⟩
      rw [gk]
      go_wp2_with fail
      refine (l5_copy l A n c 0 w.heap.size _ hn (HR0.out.below HB2.out (Nat.le_refl _))).mono ?_
      rintro e4 w4 ⟨v4, rfl, ho, hb⟩
      have HO4 := Lib.hid ho
      have HB4 := Lib.hid (below_trans HB2.out hb (Nat.le_refl _))
      have KB4 := Lib.hid (KB2.out.new hb)
      have hs4 := HB2.out.size
      clear ho hb k0 k1 k2 k3 k4 k5
      have k0 := KB4.out.at_ (j := 0) rfl
      have k1 := KB4.out.at_ (j := 1) rfl
      have k2 := KB4.out.at_ (j := 2) rfl
      have k3 := KB4.out.at_ (j := 3) rfl
      have k4 := KB4.out.at_ (j := 4) rfl
      have k5 := KB4.out.at_ (j := 5) rfl
      go_wp2_with fail
      refine (spec_NodeOf' l A n c 0 w.heap.size a2 _ (by omega) (HR0.out.below HB4.out (Nat.le_refl _))).mono ?_
      rintro e5 w5 ⟨rfl, rfl⟩
      have HBn := HB4.out
      go_wp2_with fail
      go_ret2
      exact makesq_none HE.out (makesq_of_own hs4 HO4.out HL.out.symm HBn)
  | false =>
    have g0 : decide (mNodeOf l a1 < 0) = true := by have h := mNodeOf_neg h1; rw [decide_eq_true_eq]; omega
    have HE := Lib.hid (show mMove l (⟨4, a1, a2, a3, a4, a5⟩ : TEdit) = none by unfold mMove mayMove; rw [if_neg (by simp [h1])])
    clear h1
    go_enter Try.func53, Try.ntmps53
    go_wp2_with fail
    refine (spec_IsDocument' l A n c 0 w.heap.size _ (by omega) HC.out (HR0.out.alloc _)).mono ?_
    rintro e1 w1 ⟨rfl, hb⟩
    rw [hdoc]
    have HB1 := Lib.hid (below_trans HB0.out hb (by simp))
    have KB1 := Lib.hid (KB0.out.new hb)
    have k0 := KB1.out.at_ (j := 0) rfl
    have k1 := KB1.out.at_ (j := 1) rfl
    have k2 := KB1.out.at_ (j := 2) rfl
    have k3 := KB1.out.at_ (j := 3) rfl
    have k4 := KB1.out.at_ (j := 4) rfl
    have k5 := KB1.out.at_ (j := 5) rfl
    clear hb
    go_wp2_with fail
    refine (C2.out _).mono ?_
    rintro e2 w2 ⟨rfl, hb⟩
    have HB2 := Lib.hid (below_trans HB1.out hb (Nat.le_refl _))
    have KB2 := Lib.hid (KB1.out.new hb)
    clear k0 k1 k2 k3 k4 k5
    have k0 := KB2.out.at_ (j := 0) rfl
    have k1 := KB2.out.at_ (j := 1) rfl
    have k2 := KB2.out.at_ (j := 2) rfl
    have k3 := KB2.out.at_ (j := 3) rfl
    have k4 := KB2.out.at_ (j := 4) rfl
    have k5 := KB2.out.at_ (j := 5) rfl
    clear hb
    go_wp2_with fail
    refine (spec_NodeOf' l A n c 0 w.heap.size a1 _ (by omega) (HR0.out.below HB2.out (Nat.le_refl _))).mono ?_
    rintro e3 w3 ⟨rfl, rfl⟩
    go_wp2_with fail
    refine (l5_copy l A n c 0 w.heap.size _ hn (HR0.out.below HB2.out (Nat.le_refl _))).mono ?_
    rintro e4 w4 ⟨v4, rfl, ho, hb⟩
    have HO4 := Lib.hid ho
    have HB4 := Lib.hid (below_trans HB2.out hb (Nat.le_refl _))
    have KB4 := Lib.hid (KB2.out.new hb)
    have hs4 := HB2.out.size
    clear ho hb k0 k1 k2 k3 k4 k5
    have k0 := KB4.out.at_ (j := 0) rfl
    have k1 := KB4.out.at_ (j := 1) rfl
    have k2 := KB4.out.at_ (j := 2) rfl
    have k3 := KB4.out.at_ (j := 3) rfl
    have k4 := KB4.out.at_ (j := 4) rfl
    have k5 := KB4.out.at_ (j := 5) rfl
    have HBn := HB4.out
    go_wp2_with fail
    go_ret2
    exact makesq_none HE.out (makesq_of_own hs4 HO4.out HL.out.symm HBn)
theorem spec_apply (e : TEdit) (l : List TNode) (A : Option Addr) (n c lo hi : Nat) (w : World) (hn : n ≤ 1048576) (hr : Rd w lo hi 5 A n (cNode l)) (hcap : n ≤ c) (hok : Hid (cNodeOk l)) (he : Hid (TEdit.fit e)) :
    Calls Try.prog 53 #[.slice A n c, .agg #[.int .i64 e.f0, .int .i64 e.f1, .int .i64 e.f2, .int .i64 e.f3, .int .i64 e.f4, .int .i64 e.f5]] w (MakesQ (mApply l e) (mEdited l e).isSome w) := by
  show Calls _ _ _ _ (MakesQ ((mEdited l e).getD l) (mEdited l e).isSome w)
  by_cases h : (mIsDoc l && mIsEdit e) = true
  · have hme : mEdited l e = mChange l e := by unfold mEdited; rw [if_pos h]
    rw [hme]
    rw [Bool.and_eq_true] at h
    obtain ⟨k, a1, a2, a3, a4, a5⟩ := e
    have hk : k = 1 ∨ k = 2 ∨ k = 3 ∨ k = 4 := by
      have h2 := h.2
      unfold mIsEdit at h2
      simp only [Bool.and_eq_true] at h2
      have := inR_true.1 h2.1.1.1.1.1
      omega
    rcases hk with rfl | rfl | rfl | rfl
    · exact spec_apply_add a1 a2 a3 a4 a5 l A n c lo hi w hn hr hcap hok he h.1 h.2
    · exact spec_apply_drop a1 a2 a3 a4 a5 l A n c lo hi w hn hr hcap hok he h.1 h.2
    · exact spec_apply_text a1 a2 a3 a4 a5 l A n c lo hi w hn hr hcap hok he h.1 h.2
    · exact spec_apply_move a1 a2 a3 a4 a5 l A n c lo hi w hn hr hcap hok he h.1 h.2
  · exact spec_apply_no e l A n c lo hi w hn hr hcap hok he (by simpa using h)
end Go.Proofs.Ytomoigbhikihfaa
