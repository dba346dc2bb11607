/- What each change makes of a page of a document. No condition but the length. -/
import Derived.Test.YtomoigbhikihfaaAplA
import Derived.Test.YtomoigbhikihfaaSrtN
import Derived.Test.YtomoigbhikihfaaDlN
import Derived.Test.YtomoigbhikihfaaApp0
import Derived.Test.YtomoigbhikihfaaAppO
import Derived.Deep.RegionHeld3
import Derived.Deep.LoopGhost
namespace Go.Proofs.Ytomoigbhikihfaa
open Go Go.ChangeShapes Go.WideShapes Go.ChangeAt Go.RowKit Go.Lib
set_option linter.unusedVariables false
set_option linter.unusedSimpArgs false
set_option maxRecDepth 100000

/-- What a change answers: new nodes, or none. -/
def Gives (r : Option (List TNode)) (w : World) (e : Ending) (w' : World) : Prop :=
  (r = none → e = .returned (.tuple #[.slice none 0 0, .bool false]) ∧ Below w.heap.size w w') ∧
  (∀ m, r = some m → ∃ A c, e = .returned (.tuple #[.slice A m.length c, .bool true]) ∧ Fr w' w.heap.size w'.heap.size 54 5 A m.length c (cNode m) ∧ Below w.heap.size w w')
theorem gives_none {w w' : World} (h : Below w.heap.size w w') : Gives none w (.returned (.tuple #[.slice none 0 0, .bool false])) w' := ⟨fun _ => ⟨rfl, h⟩, fun m hm => by cases hm⟩
theorem gives_some {w w' : World} {m : List TNode} {A : Option Addr} {n c : Nat} (hl : n = m.length) (hF : Fr w' w.heap.size w'.heap.size 54 5 A n c (cNode m)) (h : Below w.heap.size w w') : Gives (some m) w (.returned (.tuple #[.slice A n c, .bool true])) w' := by
  subst hl
  refine ⟨fun h => (by cases h), fun k hk => ?_⟩
  injection hk with hk
  subst hk
  exact ⟨A, c, rfl, hF, h⟩
theorem page_has1 (l : List TNode) (A : Option Addr) (n c B m : Nat) (x : Int) (g : Nat) (w : World) (hM : MapAt w B m (idx l)) (wx : (Lit.int .i64 x).wf = true)
    (h0 : w.cell? ⟨g, 0, none⟩ = some (.int .i64 x)) :
    Calls Try.prog 69 #[.agg #[.slice A n c, .map (some B)], .slice (some ⟨g, 0, none⟩) 1 1] w (Says (.bool (idx l x).isSome) w) := by
  have HM := Lib.hid hM
  have WX := Lib.hid wx
  have hgl : g < w.heap.size := World.block_lt_of_cell? w _ h0
  clear hM wx
  go_enter Try.func69, Try.ntmps69
  go_wp2_with fail
  go_loop [11] (fun i => ∃ k : Nat, k ≤ 1 ∧ i = .int .i64 k ∧ (0 < k → (idx l x).isSome = true)) (fun i => 1 - (intOf i).toNat)
  case atStart => exact ⟨0, by omega, rfl, fun h => absurd h (by omega)⟩
  case round =>
    obtain ⟨k, hk, rfl, hx⟩ := hrel
    have HX := Lib.hid hx
    have HW := Lib.hid ((Below.refl w.heap.size w).alloc (Nat.le_refl _) (.cells #[.slice A n c, .map (some B)] 59))
    have HM2 := Lib.hid (HM.out.alloc_ (.cells #[.slice A n c, .map (some B)] 59))
    clear hx
    have hk3 : k = 0 ∨ k = 1 := by omega
    rcases hk3 with rfl | rfl
    · by_cases e : (idx l x).isSome = true
      · go_wp2_with (at_lookup; refine wp_look_ok rfl _ _ _ rfl Try.underlying57 B m _ rfl HM2.out x rfl WX.out ?_)
        go_round
        case rel => exact ⟨1, by omega, by go_num, fun _ => e⟩
        case measure => simp [intOf]
      · have e : (idx l x).isSome = false := by simpa using e
        go_wp2_with (at_lookup; refine wp_look_ok rfl _ _ _ rfl Try.underlying57 B m _ rfl HM2.out x rfl WX.out ?_)
        go_ret
        exact ⟨by first | rfl | (rw [e]; rfl), HW.out⟩
    · have ex := HX.out (by omega)
      go_wp2_with fail
      go_ret
      exact ⟨by first | rfl | (rw [ex]; rfl), HW.out⟩
set_option maxHeartbeats 8000000 in
theorem with_text (e : TEdit) (l : List TNode) (A : Option Addr) (n c lo hi B m Be j : Nat) (id : Int) (w : World) (hn : n ≤ 1048576) (hr : Rd w lo hi 5 A n (cNode l)) (hM : MapAt w B m (idx l)) (kb : BoxAt w Be 101 #[.int .i64 e.f0, .int .i64 e.f1, .int .i64 e.f2, .int .i64 e.f3, .int .i64 e.f4, .int .i64 e.f5]) (wid : (Lit.int .i64 id).wf = true) (hj : idx l id = some (j : Int)) :
    Calls Try.prog 132 #[.agg #[.slice A n c, .map (some B)], .int .i64 id, .func (.func 133) #[] #[.pointer (some ⟨Be, 0, none⟩)]] w (Makes 54 5 n (cNode (l.modify j (setText e))) w) := by
  have HL := Lib.hid (rd_len TNode.len hr (by decide))
  obtain ⟨i, x, hv, hil, hx, _⟩ := idx_lt hj
  obtain rfl : j = i := by omega
  have hjn : j < n := by have := HL.out; omega
  have gi : (idx l id).getD 0 = (j : Int) := by rw [hj]; rfl
  have HR := Lib.hid (hr.alloc (.cells #[.slice A n c, .map (some B)] 59))
  have HM := Lib.hid (hM.alloc_ (.cells #[.slice A n c, .map (some B)] 59))
  have KB := Lib.hid (kb.alloc_ (.cells #[.slice A n c, .map (some B)] 59))
  have hBe := kb.lt
  have KP := Lib.hid (box_new w 59 #[.slice A n c, .map (some B)])
  have WID := Lib.hid wid
  have HX := Lib.hid hx
  have HB0 := Lib.hid ((Below.refl w.heap.size w).alloc (Nat.le_refl _) (.cells #[.slice A n c, .map (some B)] 59))
  clear hr hM kb wid hx hv hj
  go_enter Try.func132, Try.ntmps132
  go_wp2_with fail
  refine (clone_Node l A n c lo hi _ hn HR.out).mono ?_
  rintro e1 w1 ⟨v, rfl, ho, hb⟩
  obtain ⟨A', c', rfl, hF⟩ := fr_of_own ho
  obtain ⟨g, cap, rfl, h1, h2, h3, rfl, h5, f, hrow, hf⟩ := hF.row (by omega)
  rw [World.size_alloc] at h1
  have HM1 := Lib.hid (HM.out.new hb)
  have KB1 := Lib.hid (KB.out.new hb)
  have KP1 := KP.out.new hb
  have p0 := KP1.at_ (j := 0) rfl
  have p1 := KP1.at_ (j := 1) rfl
  have HRow := Lib.hid hrow
  have HF := Lib.hid hf
  have HB1 := Lib.hid (below_trans HB0.out hb (by simp))
  have hne : g ≠ Be := by omega
  have hjc : j * 5 + 4 < c' * 5 := by omega
  clear hb hrow hf hF ho KP KP1 HB0 KB HM HR
  go_wp2_with (first | (at_lookup; refine wp_look rfl _ _ _ rfl Try.underlying57 B m _ rfl HM1.out id rfl WID.out ?_) | (go_at_call 133; refine (clo_text e Be g (j * 5) (c' * 5) f _ KB1.out HRow.out hjc hne).mono ?_; rintro e2 w2 ⟨rfl, hrow2, hc2⟩; have HRow2 := Lib.hid hrow2; have HC2 := Lib.hid hc2; clear hrow2 hc2))
  go_ret
  refine ⟨_, _, rfl, fr_of_rowcap HRow2.out (by omega) (by have := HC2.out.size; omega) h3 h5 (by rw [flat_len TNode.len, List.length_modify, HL.out]) (mod_row HX.out HF.out (by decide) rfl), ?_⟩
  exact HB1.out.trans (HC2.out.below (.inl (by omega)) (by have := HB1.out.size; omega))
set_option maxHeartbeats 8000000 in
theorem with_move (e : TEdit) (l : List TNode) (A : Option Addr) (n c lo hi B m Be j : Nat) (id : Int) (w : World) (hn : n ≤ 1048576) (hr : Rd w lo hi 5 A n (cNode l)) (hM : MapAt w B m (idx l)) (kb : BoxAt w Be 102 #[.int .i64 e.f0, .int .i64 e.f1, .int .i64 e.f2, .int .i64 e.f3, .int .i64 e.f4, .int .i64 e.f5]) (wid : (Lit.int .i64 id).wf = true) (hj : idx l id = some (j : Int)) :
    Calls Try.prog 132 #[.agg #[.slice A n c, .map (some B)], .int .i64 id, .func (.func 136) #[] #[.pointer (some ⟨Be, 0, none⟩)]] w (Makes 54 5 n (cNode (l.modify j (setPar e))) w) := by
  have HL := Lib.hid (rd_len TNode.len hr (by decide))
  obtain ⟨i, x, hv, hil, hx, _⟩ := idx_lt hj
  obtain rfl : j = i := by omega
  have hjn : j < n := by have := HL.out; omega
  have gi : (idx l id).getD 0 = (j : Int) := by rw [hj]; rfl
  have HR := Lib.hid (hr.alloc (.cells #[.slice A n c, .map (some B)] 59))
  have HM := Lib.hid (hM.alloc_ (.cells #[.slice A n c, .map (some B)] 59))
  have KB := Lib.hid (kb.alloc_ (.cells #[.slice A n c, .map (some B)] 59))
  have hBe := kb.lt
  have KP := Lib.hid (box_new w 59 #[.slice A n c, .map (some B)])
  have WID := Lib.hid wid
  have HX := Lib.hid hx
  have HB0 := Lib.hid ((Below.refl w.heap.size w).alloc (Nat.le_refl _) (.cells #[.slice A n c, .map (some B)] 59))
  clear hr hM kb wid hx hv hj
  go_enter Try.func132, Try.ntmps132
  go_wp2_with fail
  refine (clone_Node l A n c lo hi _ hn HR.out).mono ?_
  rintro e1 w1 ⟨v, rfl, ho, hb⟩
  obtain ⟨A', c', rfl, hF⟩ := fr_of_own ho
  obtain ⟨g, cap, rfl, h1, h2, h3, rfl, h5, f, hrow, hf⟩ := hF.row (by omega)
  rw [World.size_alloc] at h1
  have HM1 := Lib.hid (HM.out.new hb)
  have KB1 := Lib.hid (KB.out.new hb)
  have KP1 := KP.out.new hb
  have p0 := KP1.at_ (j := 0) rfl
  have p1 := KP1.at_ (j := 1) rfl
  have HRow := Lib.hid hrow
  have HF := Lib.hid hf
  have HB1 := Lib.hid (below_trans HB0.out hb (by simp))
  have hne : g ≠ Be := by omega
  have hjc : j * 5 + 4 < c' * 5 := by omega
  clear hb hrow hf hF ho KP KP1 HB0 KB HM HR
  go_wp2_with (first | (at_lookup; refine wp_look rfl _ _ _ rfl Try.underlying57 B m _ rfl HM1.out id rfl WID.out ?_) | (go_at_call 136; refine (clo_move e Be g (j * 5) (c' * 5) f _ KB1.out HRow.out hjc hne).mono ?_; rintro e2 w2 ⟨rfl, hrow2, hc2⟩; have HRow2 := Lib.hid hrow2; have HC2 := Lib.hid hc2; clear hrow2 hc2))
  go_ret
  refine ⟨_, _, rfl, fr_of_rowcap HRow2.out (by omega) (by have := HC2.out.size; omega) h3 h5 (by rw [flat_len TNode.len, List.length_modify, HL.out]) (mod_row HX.out HF.out (by decide) rfl), ?_⟩
  exact HB1.out.trans (HC2.out.below (.inl (by omega)) (by have := HB1.out.size; omega))
set_option maxHeartbeats 16000000 in
theorem text_apply (e : TEdit) (l : List TNode) (A : Option Addr) (n c lo hi B m : Nat) (w : World) (hn : n ≤ 16) (hr : Rd w lo hi 5 A n (cNode l)) (hok : Hid (cNodeOk l)) (he : Hid (TEdit.fit e)) (hM : MapAt w B m (idx l)) (hdoc : mIsDoc l = true) :
    Calls Try.prog 130 #[.agg #[.int .i64 e.f0, .int .i64 e.f1, .int .i64 e.f2, .int .i64 e.f3, .int .i64 e.f4, .int .i64 e.f5], .agg #[.slice A n c, .map (some B)]] w (Gives (mText l e) w) := by
  have HL := Lib.hid (rd_len TNode.len hr (by decide))
  have HD := Lib.hid hdoc
  have HR0 := Lib.hid (hr.old (by decide))
  have HR := Lib.hid (((hr.old (by decide)).alloc (.cells #[.int .i64 e.f0, .int .i64 e.f1, .int .i64 e.f2, .int .i64 e.f3, .int .i64 e.f4, .int .i64 e.f5] 101)).alloc (.cells #[.slice A n c, .map (some B)] 59))
  have HM := Lib.hid ((hM.alloc_ (.cells #[.int .i64 e.f0, .int .i64 e.f1, .int .i64 e.f2, .int .i64 e.f3, .int .i64 e.f4, .int .i64 e.f5] 101)).alloc_ (.cells #[.slice A n c, .map (some B)] 59))
  have KB := Lib.hid ((box_new w 101 #[.int .i64 e.f0, .int .i64 e.f1, .int .i64 e.f2, .int .i64 e.f3, .int .i64 e.f4, .int .i64 e.f5]).alloc_ (.cells #[.slice A n c, .map (some B)] 59))
  have KP : Hid (BoxAt ((w.alloc (.cells #[.int .i64 e.f0, .int .i64 e.f1, .int .i64 e.f2, .int .i64 e.f3, .int .i64 e.f4, .int .i64 e.f5] 101)).alloc (.cells #[.slice A n c, .map (some B)] 59)) (w.heap.size + 1) 59 #[.slice A n c, .map (some B)]) := Lib.hid (by simpa using box_new (w.alloc (.cells #[.int .i64 e.f0, .int .i64 e.f1, .int .i64 e.f2, .int .i64 e.f3, .int .i64 e.f4, .int .i64 e.f5] 101)) 59 #[.slice A n c, .map (some B)])
  have HB0 := Lib.hid (((Below.refl w.heap.size w).alloc (Nat.le_refl _) (.cells #[.int .i64 e.f0, .int .i64 e.f1, .int .i64 e.f2, .int .i64 e.f3, .int .i64 e.f4, .int .i64 e.f5] 101)).alloc (by simp) (.cells #[.slice A n c, .map (some B)] 59))
  have W1 := Lib.hid (show (Lit.int .i64 e.f1).wf = true from WalkArith.wf_i64 he.out.2.1)
  have W2 := Lib.hid (show (Lit.int .i64 e.f2).wf = true from WalkArith.wf_i64 he.out.2.2.1)
  have KL1 : Hid (BoxAt (((w.alloc (.cells #[.int .i64 e.f0, .int .i64 e.f1, .int .i64 e.f2, .int .i64 e.f3, .int .i64 e.f4, .int .i64 e.f5] 101)).alloc (.cells #[.slice A n c, .map (some B)] 59)).alloc (.cells #[.int .i64 e.f1] 3)) (w.heap.size + 1 + 1) 3 #[.int .i64 e.f1]) := Lib.hid (by simpa using box_new ((w.alloc (.cells #[.int .i64 e.f0, .int .i64 e.f1, .int .i64 e.f2, .int .i64 e.f3, .int .i64 e.f4, .int .i64 e.f5] 101)).alloc (.cells #[.slice A n c, .map (some B)] 59)) 3 #[.int .i64 e.f1])
  have KL2 : Hid (BoxAt (((w.alloc (.cells #[.int .i64 e.f0, .int .i64 e.f1, .int .i64 e.f2, .int .i64 e.f3, .int .i64 e.f4, .int .i64 e.f5] 101)).alloc (.cells #[.slice A n c, .map (some B)] 59)).alloc (.cells #[.int .i64 e.f1, .int .i64 e.f2] 3)) (w.heap.size + 1 + 1) 3 #[.int .i64 e.f1, .int .i64 e.f2]) := Lib.hid (by simpa using box_new ((w.alloc (.cells #[.int .i64 e.f0, .int .i64 e.f1, .int .i64 e.f2, .int .i64 e.f3, .int .i64 e.f4, .int .i64 e.f5] 101)).alloc (.cells #[.slice A n c, .map (some B)] 59)) 3 #[.int .i64 e.f1, .int .i64 e.f2])
  clear hr hM hdoc
  by_cases ht : (idx l e.f1).isSome = true
  · have hh : (idx l e.f1).isSome = true := ht
    obtain ⟨v, hv⟩ := Option.isSome_iff_exists.1 (show (idx l e.f1).isSome = true from ht)
    obtain ⟨j, _, rfl, _, _⟩ := idx_lt hv
    have HE := Lib.hid (show mText l e = some (l.modify j (setText e)) by unfold mText; rw [if_pos ht, mNode_of hv]; rfl)
    have HV := Lib.hid hv
    clear ht hv
    go_enter Try.func130, Try.ntmps130
    go_wp2_with fail
    refine (page_has1 l A n c B m e.f1 _ _ (HM.out.alloc_ _) W1.out (KL1.out.at_ rfl)).mono ?_
    rintro e1 w1 ⟨rfl, hb⟩
    rw [hh]
    have HB1 := Lib.hid (below_trans (HB0.out.alloc (by simp <;> omega) (.cells #[.int .i64 e.f1] 3)) hb (by simp <;> omega))
    have KB1 := Lib.hid ((KB.out.alloc_ (.cells #[.int .i64 e.f1] 3)).new hb)
    have KP1 := Lib.hid ((KP.out.alloc_ (.cells #[.int .i64 e.f1] 3)).new hb)
    have HM1 := Lib.hid ((HM.out.alloc_ (.cells #[.int .i64 e.f1] 3)).new hb)
    have HR1 := Lib.hid ((HR.out.alloc (.cells #[.int .i64 e.f1] 3)).new hb)
    have hs1 : w.heap.size + 2 < w1.heap.size := by have := hb.size; simp at this; omega
    clear hb KB KP HM HR HB0 KL1 KL2
    have k0 := KB1.out.at_ (j := 0) rfl
    have k1 := KB1.out.at_ (j := 1) rfl
    have k2 := KB1.out.at_ (j := 2) rfl
    have k3 := KB1.out.at_ (j := 3) rfl
    have k4 := KB1.out.at_ (j := 4) rfl
    have k5 := KB1.out.at_ (j := 5) rfl
    have p0 := KP1.out.at_ (j := 0) rfl
    have p1 := KP1.out.at_ (j := 1) rfl
    go_wp2_with fail
    refine (with_text e l A n c 0 w.heap.size B m w.heap.size j e.f1 _ (by omega) HR1.out HM1.out KB1.out W1.out HV.out).mono ?_
    rintro e2 w2 ⟨A2, c2, rfl, hF, hb⟩
    have HF := Lib.hid (hF.mono (lo' := w.heap.size) (by omega) (Nat.le_refl _))
    have HB2 := Lib.hid (below_trans HB1.out hb (by omega))
    clear hF hb
    go_wp2_with fail
    go_ret2
    rw [HE.out]
    exact gives_some (by rw [List.length_modify, HL.out]) HF.out HB2.out
  · have hh : (idx l e.f1).isSome = false := by simpa using ht
    have HE := Lib.hid (show mText l e = none by unfold mText; rw [if_neg ht])
    clear ht
    go_enter Try.func130, Try.ntmps130
    go_wp2_with fail
    refine (page_has1 l A n c B m e.f1 _ _ (HM.out.alloc_ _) W1.out (KL1.out.at_ rfl)).mono ?_
    rintro e1 w1 ⟨rfl, hb⟩
    rw [hh]
    have HB1 := Lib.hid (below_trans (HB0.out.alloc (by simp <;> omega) (.cells #[.int .i64 e.f1] 3)) hb (by simp <;> omega))
    have KB1 := Lib.hid ((KB.out.alloc_ (.cells #[.int .i64 e.f1] 3)).new hb)
    have KP1 := Lib.hid ((KP.out.alloc_ (.cells #[.int .i64 e.f1] 3)).new hb)
    have HM1 := Lib.hid ((HM.out.alloc_ (.cells #[.int .i64 e.f1] 3)).new hb)
    have HR1 := Lib.hid ((HR.out.alloc (.cells #[.int .i64 e.f1] 3)).new hb)
    have hs1 : w.heap.size + 2 < w1.heap.size := by have := hb.size; simp at this; omega
    clear hb KB KP HM HR HB0 KL1 KL2
    have k0 := KB1.out.at_ (j := 0) rfl
    have k1 := KB1.out.at_ (j := 1) rfl
    have k2 := KB1.out.at_ (j := 2) rfl
    have k3 := KB1.out.at_ (j := 3) rfl
    have k4 := KB1.out.at_ (j := 4) rfl
    have k5 := KB1.out.at_ (j := 5) rfl
    have p0 := KP1.out.at_ (j := 0) rfl
    have p1 := KP1.out.at_ (j := 1) rfl
    go_wp2_with fail
    go_ret2
    rw [HE.out]
    exact gives_none HB1.out
set_option maxHeartbeats 16000000 in
theorem move_apply (e : TEdit) (l : List TNode) (A : Option Addr) (n c lo hi B m : Nat) (w : World) (hn : n ≤ 16) (hr : Rd w lo hi 5 A n (cNode l)) (hok : Hid (cNodeOk l)) (he : Hid (TEdit.fit e)) (hM : MapAt w B m (idx l)) (hdoc : mIsDoc l = true) :
    Calls Try.prog 134 #[.agg #[.int .i64 e.f0, .int .i64 e.f1, .int .i64 e.f2, .int .i64 e.f3, .int .i64 e.f4, .int .i64 e.f5], .agg #[.slice A n c, .map (some B)]] w (Gives (mMove l e) w) := by
  have HL := Lib.hid (rd_len TNode.len hr (by decide))
  have HD := Lib.hid hdoc
  have HR0 := Lib.hid (hr.old (by decide))
  have HR := Lib.hid (((hr.old (by decide)).alloc (.cells #[.int .i64 e.f0, .int .i64 e.f1, .int .i64 e.f2, .int .i64 e.f3, .int .i64 e.f4, .int .i64 e.f5] 102)).alloc (.cells #[.slice A n c, .map (some B)] 59))
  have HM := Lib.hid ((hM.alloc_ (.cells #[.int .i64 e.f0, .int .i64 e.f1, .int .i64 e.f2, .int .i64 e.f3, .int .i64 e.f4, .int .i64 e.f5] 102)).alloc_ (.cells #[.slice A n c, .map (some B)] 59))
  have KB := Lib.hid ((box_new w 102 #[.int .i64 e.f0, .int .i64 e.f1, .int .i64 e.f2, .int .i64 e.f3, .int .i64 e.f4, .int .i64 e.f5]).alloc_ (.cells #[.slice A n c, .map (some B)] 59))
  have KP : Hid (BoxAt ((w.alloc (.cells #[.int .i64 e.f0, .int .i64 e.f1, .int .i64 e.f2, .int .i64 e.f3, .int .i64 e.f4, .int .i64 e.f5] 102)).alloc (.cells #[.slice A n c, .map (some B)] 59)) (w.heap.size + 1) 59 #[.slice A n c, .map (some B)]) := Lib.hid (by simpa using box_new (w.alloc (.cells #[.int .i64 e.f0, .int .i64 e.f1, .int .i64 e.f2, .int .i64 e.f3, .int .i64 e.f4, .int .i64 e.f5] 102)) 59 #[.slice A n c, .map (some B)])
  have HB0 := Lib.hid (((Below.refl w.heap.size w).alloc (Nat.le_refl _) (.cells #[.int .i64 e.f0, .int .i64 e.f1, .int .i64 e.f2, .int .i64 e.f3, .int .i64 e.f4, .int .i64 e.f5] 102)).alloc (by simp) (.cells #[.slice A n c, .map (some B)] 59))
  have W1 := Lib.hid (show (Lit.int .i64 e.f1).wf = true from WalkArith.wf_i64 he.out.2.1)
  have W2 := Lib.hid (show (Lit.int .i64 e.f2).wf = true from WalkArith.wf_i64 he.out.2.2.1)
  have KL1 : Hid (BoxAt (((w.alloc (.cells #[.int .i64 e.f0, .int .i64 e.f1, .int .i64 e.f2, .int .i64 e.f3, .int .i64 e.f4, .int .i64 e.f5] 102)).alloc (.cells #[.slice A n c, .map (some B)] 59)).alloc (.cells #[.int .i64 e.f1] 3)) (w.heap.size + 1 + 1) 3 #[.int .i64 e.f1]) := Lib.hid (by simpa using box_new ((w.alloc (.cells #[.int .i64 e.f0, .int .i64 e.f1, .int .i64 e.f2, .int .i64 e.f3, .int .i64 e.f4, .int .i64 e.f5] 102)).alloc (.cells #[.slice A n c, .map (some B)] 59)) 3 #[.int .i64 e.f1])
  have KL2 : Hid (BoxAt (((w.alloc (.cells #[.int .i64 e.f0, .int .i64 e.f1, .int .i64 e.f2, .int .i64 e.f3, .int .i64 e.f4, .int .i64 e.f5] 102)).alloc (.cells #[.slice A n c, .map (some B)] 59)).alloc (.cells #[.int .i64 e.f1, .int .i64 e.f2] 3)) (w.heap.size + 1 + 1) 3 #[.int .i64 e.f1, .int .i64 e.f2]) := Lib.hid (by simpa using box_new ((w.alloc (.cells #[.int .i64 e.f0, .int .i64 e.f1, .int .i64 e.f2, .int .i64 e.f3, .int .i64 e.f4, .int .i64 e.f5] 102)).alloc (.cells #[.slice A n c, .map (some B)] 59)) 3 #[.int .i64 e.f1, .int .i64 e.f2])
  clear hr hM hdoc
  by_cases hh : ((idx l e.f1).isSome && (idx l e.f2).isSome) = true
  · by_cases h3 : e.f2 < e.f1
    · have ht : mayMove l e = true := by unfold mayMove; rw [hh]; simpa using h3
      obtain ⟨v, hv⟩ := Option.isSome_iff_exists.1 (show (idx l e.f1).isSome = true by rw [Bool.and_eq_true] at hh; exact hh.1)
      obtain ⟨j, _, rfl, _, _⟩ := idx_lt hv
      have HE := Lib.hid (show mMove l e = some (l.modify j (setPar e)) by unfold mMove; rw [if_pos ht, mNode_of hv]; rfl)
      have HV := Lib.hid hv
      have g2 : decide (e.f1 ≤ e.f2) = false := by rw [decide_eq_false_iff_not]; omega
      clear ht hv h3
      go_enter Try.func134, Try.ntmps134
      go_wp2_with fail
      refine (page_has l A n c B m e.f1 e.f2 _ _ (HM.out.alloc_ _) W1.out W2.out (KL2.out.at_ rfl) (KL2.out.at_ rfl)).mono ?_
      rintro e1 w1 ⟨rfl, hb⟩
      rw [hh]
      have HB1 := Lib.hid (below_trans (HB0.out.alloc (by simp <;> omega) (.cells #[.int .i64 e.f1, .int .i64 e.f2] 3)) hb (by simp <;> omega))
      have KB1 := Lib.hid ((KB.out.alloc_ (.cells #[.int .i64 e.f1, .int .i64 e.f2] 3)).new hb)
      have KP1 := Lib.hid ((KP.out.alloc_ (.cells #[.int .i64 e.f1, .int .i64 e.f2] 3)).new hb)
      have HM1 := Lib.hid ((HM.out.alloc_ (.cells #[.int .i64 e.f1, .int .i64 e.f2] 3)).new hb)
      have HR1 := Lib.hid ((HR.out.alloc (.cells #[.int .i64 e.f1, .int .i64 e.f2] 3)).new hb)
      have hs1 : w.heap.size + 2 < w1.heap.size := by have := hb.size; simp at this; omega
      clear hb KB KP HM HR HB0 KL1 KL2
      have k0 := KB1.out.at_ (j := 0) rfl
      have k1 := KB1.out.at_ (j := 1) rfl
      have k2 := KB1.out.at_ (j := 2) rfl
      have k3 := KB1.out.at_ (j := 3) rfl
      have k4 := KB1.out.at_ (j := 4) rfl
      have k5 := KB1.out.at_ (j := 5) rfl
      have p0 := KP1.out.at_ (j := 0) rfl
      have p1 := KP1.out.at_ (j := 1) rfl
      go_wp2_with fail
      refine (with_move e l A n c 0 w.heap.size B m w.heap.size j e.f1 _ (by omega) HR1.out HM1.out KB1.out W1.out HV.out).mono ?_
      rintro e2 w2 ⟨A2, c2, rfl, hF, hb⟩
      have HF := Lib.hid (hF.mono (lo' := w.heap.size) (by omega) (Nat.le_refl _))
      have HB2 := Lib.hid (below_trans HB1.out hb (by omega))
      clear hF hb
      go_wp2_with fail
      go_ret2
      rw [HE.out]
      exact gives_some (by rw [List.length_modify, HL.out]) HF.out HB2.out
    · have HE := Lib.hid (show mMove l e = none by unfold mMove mayMove; rw [if_neg (by simp [h3])])
      have g2 : decide (e.f1 ≤ e.f2) = true := by rw [decide_eq_true_eq]; omega
      clear h3
      go_enter Try.func134, Try.ntmps134
      go_wp2_with fail
      refine (page_has l A n c B m e.f1 e.f2 _ _ (HM.out.alloc_ _) W1.out W2.out (KL2.out.at_ rfl) (KL2.out.at_ rfl)).mono ?_
      rintro e1 w1 ⟨rfl, hb⟩
      rw [hh]
      have HB1 := Lib.hid (below_trans (HB0.out.alloc (by simp <;> omega) (.cells #[.int .i64 e.f1, .int .i64 e.f2] 3)) hb (by simp <;> omega))
      have KB1 := Lib.hid ((KB.out.alloc_ (.cells #[.int .i64 e.f1, .int .i64 e.f2] 3)).new hb)
      have KP1 := Lib.hid ((KP.out.alloc_ (.cells #[.int .i64 e.f1, .int .i64 e.f2] 3)).new hb)
      have HM1 := Lib.hid ((HM.out.alloc_ (.cells #[.int .i64 e.f1, .int .i64 e.f2] 3)).new hb)
      have HR1 := Lib.hid ((HR.out.alloc (.cells #[.int .i64 e.f1, .int .i64 e.f2] 3)).new hb)
      have hs1 : w.heap.size + 2 < w1.heap.size := by have := hb.size; simp at this; omega
      clear hb KB KP HM HR HB0 KL1 KL2
      have k0 := KB1.out.at_ (j := 0) rfl
      have k1 := KB1.out.at_ (j := 1) rfl
      have k2 := KB1.out.at_ (j := 2) rfl
      have k3 := KB1.out.at_ (j := 3) rfl
      have k4 := KB1.out.at_ (j := 4) rfl
      have k5 := KB1.out.at_ (j := 5) rfl
      have p0 := KP1.out.at_ (j := 0) rfl
      have p1 := KP1.out.at_ (j := 1) rfl
      go_wp2_with fail
      go_ret2
      rw [HE.out]
      exact gives_none HB1.out
  · have hh : ((idx l e.f1).isSome && (idx l e.f2).isSome) = false := by simpa using hh
    have HE := Lib.hid (show mMove l e = none by unfold mMove mayMove; rw [if_neg (by rw [hh]; simp)])
    go_enter Try.func134, Try.ntmps134
    go_wp2_with fail
    refine (page_has l A n c B m e.f1 e.f2 _ _ (HM.out.alloc_ _) W1.out W2.out (KL2.out.at_ rfl) (KL2.out.at_ rfl)).mono ?_
    rintro e1 w1 ⟨rfl, hb⟩
    rw [hh]
    have HB1 := Lib.hid (below_trans (HB0.out.alloc (by simp <;> omega) (.cells #[.int .i64 e.f1, .int .i64 e.f2] 3)) hb (by simp <;> omega))
    have KB1 := Lib.hid ((KB.out.alloc_ (.cells #[.int .i64 e.f1, .int .i64 e.f2] 3)).new hb)
    have KP1 := Lib.hid ((KP.out.alloc_ (.cells #[.int .i64 e.f1, .int .i64 e.f2] 3)).new hb)
    have HM1 := Lib.hid ((HM.out.alloc_ (.cells #[.int .i64 e.f1, .int .i64 e.f2] 3)).new hb)
    have HR1 := Lib.hid ((HR.out.alloc (.cells #[.int .i64 e.f1, .int .i64 e.f2] 3)).new hb)
    have hs1 : w.heap.size + 2 < w1.heap.size := by have := hb.size; simp at this; omega
    clear hb KB KP HM HR HB0 KL1 KL2
    have k0 := KB1.out.at_ (j := 0) rfl
    have k1 := KB1.out.at_ (j := 1) rfl
    have k2 := KB1.out.at_ (j := 2) rfl
    have k3 := KB1.out.at_ (j := 3) rfl
    have k4 := KB1.out.at_ (j := 4) rfl
    have k5 := KB1.out.at_ (j := 5) rfl
    have p0 := KP1.out.at_ (j := 0) rfl
    have p1 := KP1.out.at_ (j := 1) rfl
    go_wp2_with fail
    go_ret2
    rw [HE.out]
    exact gives_none HB1.out
set_option maxHeartbeats 8000000 in
theorem clo_drop (e : TEdit) (l : List TNode) (A : Option Addr) (n c lo hi B m Be Bp : Nat) (x : TNode) (w : World) (hn : n ≤ 16) (hr : Rd w lo hi 5 A n (cNode l)) (hok : Hid (cNodeOk l)) (hM : MapAt w B m (idx l)) (hdoc : mIsDoc l = true) (kb : BoxAt w Be 100 #[.int .i64 e.f0, .int .i64 e.f1, .int .i64 e.f2, .int .i64 e.f3, .int .i64 e.f4, .int .i64 e.f5]) (kp : BoxAt w Bp 59 #[.slice A n c, .map (some B)])
    (wx : (Lit.int .i64 x.f0).wf = true) (we : (Lit.int .i64 e.f1).wf = true) :
    Calls Try.prog 127 #[.agg #[.int .i64 x.f0, .int .i64 x.f1, .int .i64 x.f2, .int .i64 x.f3, .int .i64 x.f4], .pointer (some ⟨Bp, 0, none⟩), .pointer (some ⟨Be, 0, none⟩)] w (Says (.bool (mUnder l x.f0 e.f1)) w) := by
  have HC := Lib.hid (page_under l A n c lo hi B m x.f0 e.f1 (w.alloc (.cells #[.int .i64 x.f0, .int .i64 x.f1, .int .i64 x.f2, .int .i64 x.f3, .int .i64 x.f4] 54)) (by omega) (hr.alloc _) hok (hM.alloc_ _) hdoc wx we)
  have hbl := kb.lt
  have hpl := kp.lt
  have k1 := kb.at_ (j := 1) rfl
  have p0 := kp.at_ (j := 0) rfl
  have p1 := kp.at_ (j := 1) rfl
  clear hr hM kb kp
  generalize mUnder l x.f0 e.f1 = r at HC ⊢
  go_enter Try.func127, Try.ntmps127
  go_wp2_with fail
  refine HC.out.mono ?_
  rintro e1 w1 ⟨rfl, hb⟩
  have HB := Lib.hid (below_trans ((Below.refl w.heap.size w).alloc (Nat.le_refl _) (.cells #[.int .i64 x.f0, .int .i64 x.f1, .int .i64 x.f2, .int .i64 x.f3, .int .i64 x.f4] 54)) hb (by simp))
  clear hb
  go_wp2_with fail
  go_ret
  exact ⟨rfl, HB.out⟩
set_option maxHeartbeats 16000000 in
theorem drop_apply (e : TEdit) (l : List TNode) (A : Option Addr) (n c lo hi B m : Nat) (w : World) (hn : n ≤ 16) (hr : Rd w lo hi 5 A n (cNode l)) (hok : Hid (cNodeOk l)) (he : Hid (TEdit.fit e)) (hM : MapAt w B m (idx l)) (hdoc : mIsDoc l = true) :
    Calls Try.prog 125 #[.agg #[.int .i64 e.f0, .int .i64 e.f1, .int .i64 e.f2, .int .i64 e.f3, .int .i64 e.f4, .int .i64 e.f5], .agg #[.slice A n c, .map (some B)]] w (Gives (mDrop l e.f1) w) := by
  have HL := Lib.hid (rd_len TNode.len hr (by decide))
  have HD := Lib.hid hdoc
  have HR0 := Lib.hid (hr.old (by decide))
  have HR := Lib.hid (((hr.old (by decide)).alloc (.cells #[.int .i64 e.f0, .int .i64 e.f1, .int .i64 e.f2, .int .i64 e.f3, .int .i64 e.f4, .int .i64 e.f5] 100)).alloc (.cells #[.slice A n c, .map (some B)] 59))
  have HM := Lib.hid ((hM.alloc_ (.cells #[.int .i64 e.f0, .int .i64 e.f1, .int .i64 e.f2, .int .i64 e.f3, .int .i64 e.f4, .int .i64 e.f5] 100)).alloc_ (.cells #[.slice A n c, .map (some B)] 59))
  have KB := Lib.hid ((box_new w 100 #[.int .i64 e.f0, .int .i64 e.f1, .int .i64 e.f2, .int .i64 e.f3, .int .i64 e.f4, .int .i64 e.f5]).alloc_ (.cells #[.slice A n c, .map (some B)] 59))
  have KP : Hid (BoxAt ((w.alloc (.cells #[.int .i64 e.f0, .int .i64 e.f1, .int .i64 e.f2, .int .i64 e.f3, .int .i64 e.f4, .int .i64 e.f5] 100)).alloc (.cells #[.slice A n c, .map (some B)] 59)) (w.heap.size + 1) 59 #[.slice A n c, .map (some B)]) := Lib.hid (by simpa using box_new (w.alloc (.cells #[.int .i64 e.f0, .int .i64 e.f1, .int .i64 e.f2, .int .i64 e.f3, .int .i64 e.f4, .int .i64 e.f5] 100)) 59 #[.slice A n c, .map (some B)])
  have HB0 := Lib.hid (((Below.refl w.heap.size w).alloc (Nat.le_refl _) (.cells #[.int .i64 e.f0, .int .i64 e.f1, .int .i64 e.f2, .int .i64 e.f3, .int .i64 e.f4, .int .i64 e.f5] 100)).alloc (by simp) (.cells #[.slice A n c, .map (some B)] 59))
  have W1 := Lib.hid (show (Lit.int .i64 e.f1).wf = true from WalkArith.wf_i64 he.out.2.1)
  have W2 := Lib.hid (show (Lit.int .i64 e.f2).wf = true from WalkArith.wf_i64 he.out.2.2.1)
  have KL1 : Hid (BoxAt (((w.alloc (.cells #[.int .i64 e.f0, .int .i64 e.f1, .int .i64 e.f2, .int .i64 e.f3, .int .i64 e.f4, .int .i64 e.f5] 100)).alloc (.cells #[.slice A n c, .map (some B)] 59)).alloc (.cells #[.int .i64 e.f1] 3)) (w.heap.size + 1 + 1) 3 #[.int .i64 e.f1]) := Lib.hid (by simpa using box_new ((w.alloc (.cells #[.int .i64 e.f0, .int .i64 e.f1, .int .i64 e.f2, .int .i64 e.f3, .int .i64 e.f4, .int .i64 e.f5] 100)).alloc (.cells #[.slice A n c, .map (some B)] 59)) 3 #[.int .i64 e.f1])
  have KL2 : Hid (BoxAt (((w.alloc (.cells #[.int .i64 e.f0, .int .i64 e.f1, .int .i64 e.f2, .int .i64 e.f3, .int .i64 e.f4, .int .i64 e.f5] 100)).alloc (.cells #[.slice A n c, .map (some B)] 59)).alloc (.cells #[.int .i64 e.f1, .int .i64 e.f2] 3)) (w.heap.size + 1 + 1) 3 #[.int .i64 e.f1, .int .i64 e.f2]) := Lib.hid (by simpa using box_new ((w.alloc (.cells #[.int .i64 e.f0, .int .i64 e.f1, .int .i64 e.f2, .int .i64 e.f3, .int .i64 e.f4, .int .i64 e.f5] 100)).alloc (.cells #[.slice A n c, .map (some B)] 59)) 3 #[.int .i64 e.f1, .int .i64 e.f2])
  clear hr hM hdoc
  have hmf : ∀ (fn : Fn) (first cap : Array Value) (w : World), (Instr.makeFunc fn first cap).run Try.prog w = .ok (.func fn first cap) w := fun _ _ _ _ => rfl
  by_cases ht : (idx l e.f1).isSome = true
  · have hh := ht
    have HE := Lib.hid (show mDrop l e.f1 = some (l.filter (stays l e.f1)) by unfold mDrop; rw [if_pos ht])
    clear ht
    go_enter Try.func125, Try.ntmps125
    go_wp2_with fail
    refine (page_has1 l A n c B m e.f1 _ _ (HM.out.alloc_ _) W1.out (KL1.out.at_ rfl)).mono ?_
    rintro e1 w1 ⟨rfl, hb⟩
    rw [hh]
    have HB1 := Lib.hid (below_trans (HB0.out.alloc (by simp <;> omega) (.cells #[.int .i64 e.f1] 3)) hb (by simp <;> omega))
    have KB1 := Lib.hid ((KB.out.alloc_ (.cells #[.int .i64 e.f1] 3)).new hb)
    have KP1 := Lib.hid ((KP.out.alloc_ (.cells #[.int .i64 e.f1] 3)).new hb)
    have HM1 := Lib.hid ((HM.out.alloc_ (.cells #[.int .i64 e.f1] 3)).new hb)
    have HR1 := Lib.hid ((HR.out.alloc (.cells #[.int .i64 e.f1] 3)).new hb)
    have hs1 : w.heap.size + 2 < w1.heap.size := by have := hb.size; simp at this; omega
    clear hb KB KP HM HR HB0 KL1 KL2
    have k0 := KB1.out.at_ (j := 0) rfl
    have k1 := KB1.out.at_ (j := 1) rfl
    have k2 := KB1.out.at_ (j := 2) rfl
    have k3 := KB1.out.at_ (j := 3) rfl
    have k4 := KB1.out.at_ (j := 4) rfl
    have k5 := KB1.out.at_ (j := 5) rfl
    have p0 := KP1.out.at_ (j := 0) rfl
    have p1 := KP1.out.at_ (j := 1) rfl
    go_wp2_with fail
    refine (clone_Node l A n c 0 w.heap.size _ (by omega) HR1.out).mono ?_
    rintro e2 w2 ⟨v, rfl, ho, hb⟩
    obtain ⟨A', c', rfl, hF⟩ := fr_of_own ho
    have CD := Lib.hid (deln_any (fun x => mUnder l x.f0 e.f1) (.pointer (some ⟨w.heap.size + 1, 0, none⟩)) (.pointer (some ⟨w.heap.size, 0, none⟩)) l A' n c' w1.heap.size w2.heap.size w2 (by omega) (Nat.le_refl _) hF (fun W x hx hc =>
      clo_drop e l A n c 0 w.heap.size B m w.heap.size (w.heap.size + 1) x W hn ((HR1.out.new hb).chg hc (.inl (by omega))) hok ((HM1.out.new hb).keep (hc.block B (by have := (HM1.out.new hb).lt; omega) (by have := HM1.out.lt; omega))) HD.out ((KB1.out.new hb).chg hc (by omega)) ((KP1.out.new hb).chg hc (by omega)) (WalkArith.wf_i64 (hok.out x hx).1) W1.out))
    have HB2 := Lib.hid (below_trans HB1.out hb (by omega))
    have hs2 := hb.size
    clear hb hF ho
    go_wp2_with fail
    refine CD.out.mono ?_
    rintro e3 w3 ⟨A3, c3, rfl, hF3, hc3⟩
    have HF := Lib.hid ((hF3.mono (lo' := w.heap.size) (hi' := w3.heap.size) (by omega) hc3.size))
    have HB3 := Lib.hid (HB2.out.trans (hc3.below (.inl (by omega)) (by omega)))
    clear hF3 hc3 CD
    go_wp2_with fail
    go_ret2
    rw [HE.out]
    exact gives_some rfl HF.out HB3.out
  · have hh : (idx l e.f1).isSome = false := by simpa using ht
    have HE := Lib.hid (show mDrop l e.f1 = none by unfold mDrop; rw [if_neg ht])
    clear ht
    go_enter Try.func125, Try.ntmps125
    go_wp2_with fail
    refine (page_has1 l A n c B m e.f1 _ _ (HM.out.alloc_ _) W1.out (KL1.out.at_ rfl)).mono ?_
    rintro e1 w1 ⟨rfl, hb⟩
    rw [hh]
    have HB1 := Lib.hid (below_trans (HB0.out.alloc (by simp <;> omega) (.cells #[.int .i64 e.f1] 3)) hb (by simp <;> omega))
    have KB1 := Lib.hid ((KB.out.alloc_ (.cells #[.int .i64 e.f1] 3)).new hb)
    have KP1 := Lib.hid ((KP.out.alloc_ (.cells #[.int .i64 e.f1] 3)).new hb)
    have HM1 := Lib.hid ((HM.out.alloc_ (.cells #[.int .i64 e.f1] 3)).new hb)
    have HR1 := Lib.hid ((HR.out.alloc (.cells #[.int .i64 e.f1] 3)).new hb)
    have hs1 : w.heap.size + 2 < w1.heap.size := by have := hb.size; simp at this; omega
    clear hb KB KP HM HR HB0 KL1 KL2
    have k0 := KB1.out.at_ (j := 0) rfl
    have k1 := KB1.out.at_ (j := 1) rfl
    have k2 := KB1.out.at_ (j := 2) rfl
    have k3 := KB1.out.at_ (j := 3) rfl
    have k4 := KB1.out.at_ (j := 4) rfl
    have k5 := KB1.out.at_ (j := 5) rfl
    have p0 := KP1.out.at_ (j := 0) rfl
    have p1 := KP1.out.at_ (j := 1) rfl
    go_wp2_with fail
    go_ret2
    rw [HE.out]
    exact gives_none HB1.out
end Go.Proofs.Ytomoigbhikihfaa
