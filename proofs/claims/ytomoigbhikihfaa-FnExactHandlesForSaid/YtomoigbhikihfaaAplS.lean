/- A drop and an addition of the model. No condition but the length. -/
import Derived.Test.YtomoigbhikihfaaAplC
import Derived.Test.YtomoigbhikihfaaL5C
import Derived.IntWalk
namespace Go.Proofs.Ytomoigbhikihfaa
open Go Go.ChangeShapes Go.WideShapes Go.ChangeAt Go.RowKit Go.Lib
set_option linter.unusedVariables false
set_option linter.unusedSimpArgs false
set_option maxRecDepth 100000

def MakesQ (r : List TNode) (b : Bool) (w : World) (e : Ending) (w' : World) : Prop :=
  ∃ A c, e = .returned (.tuple #[.slice A r.length c, .bool b]) ∧ Fr w' w.heap.size w'.heap.size 54 5 A r.length c (cNode r) ∧ Below w.heap.size w w'
theorem makesq_of_own {w w' : World} {base n : Nat} {r : List TNode} {b : Bool} {v : Value} (hb : w.heap.size ≤ base) (h : w'.ownsRow base 54 5 v n (cNode r)) (hn : n = r.length) (hB : Below w.heap.size w w') : MakesQ r b w (.returned (.tuple #[v, .bool b])) w' := by
  subst hn
  obtain ⟨A, c, rfl, hF⟩ := fr_of_own h
  exact ⟨A, c, rfl, hF.mono hb (Nat.le_refl _), hB⟩
theorem l5_base (base : Nat) (l : List TNode) (A : Option Addr) (n c lo hi : Nat) (w : World) (hb : base ≤ w.heap.size) (hn : n ≤ 1048576) (hr : Rd w lo hi 5 A n (cNode l)) :
    Calls Try.prog 52 #[.slice A n c] w (fun e w' => ∃ v, e = .returned v ∧ w'.ownsRow base 54 5 v n (cNode l) ∧ Below w.heap.size w w') :=
  (l5_copy l A n c lo hi w hn hr).mono fun _ _ ⟨v, he, ho, h⟩ => ⟨v, he, own_base ho hb, h⟩
theorem flatN_drop (l : List TNode) (k : Nat) : cNode (l.drop k) = (cNode l).drop (k * 5) := by
  by_cases h : k ≤ l.length
  · have e : cNode l = cNode (l.take k) ++ cNode (l.drop k) := by rw [← List.flatMap_append, List.take_append_drop]
    rw [e, List.drop_left' (by rw [flat_len TNode.len, List.length_take]; omega)]
  · rw [List.drop_eq_nil_of_le (by omega), List.drop_eq_nil_of_le (by rw [flat_len TNode.len]; omega)]; rfl
theorem rdN_take {w : World} {lo hi n k : Nat} {A : Option Addr} {l : List TNode} (h : Rd w lo hi 5 A n (cNode l)) (hk : k ≤ n) : Rd w lo hi 5 A k (cNode (l.take k)) := by
  have hl := rd_len TNode.len h (by decide)
  refine ⟨by rw [flat_len TNode.len, List.length_take]; omega, fun h0 => ?_⟩
  obtain ⟨b, off, e, h1, h2, hc⟩ := h.2 (by omega)
  refine ⟨b, off, e, h1, h2, fun j u hu => hc j u ?_⟩
  have hu' : ((cNode l).take (k * 5))[j]? = some u := by rw [← hu]; exact congrArg (·[j]?) (flat_take (c := TNode.cells) TNode.len l k).symm
  rw [List.getElem?_take] at hu'
  split at hu'
  · exact hu'
  · cases hu'
theorem rdN_drop {w : World} {lo hi n k : Nat} {b off : Nat} {l : List TNode} (h : Rd w lo hi 5 (some ⟨b, off, none⟩) n (cNode l)) (hk : k ≤ n) : Rd w lo hi 5 (some ⟨b, off + k * 5, none⟩) (n - k) (cNode (l.drop k)) := by
  have hl := rd_len TNode.len h (by decide)
  refine ⟨by rw [flat_len TNode.len, List.length_drop]; omega, fun h0 => ?_⟩
  obtain ⟨b', off', e, h1, h2, hc⟩ := h.2 (by omega)
  injection e with e; injection e with e1 e2; subst e1; subst e2
  refine ⟨_, _, rfl, h1, h2, fun j u hu => ?_⟩
  rw [Nat.add_assoc]
  refine hc (k * 5 + j) u ?_
  rw [flatN_drop, List.getElem?_drop] at hu
  exact hu
theorem ocOne (x : TNode) : ∀ u ∈ (#[.int .i64 x.f0, .int .i64 x.f1, .int .i64 x.f2, .int .i64 x.f3, .int .i64 x.f4] : Array Value).toList, u.oneCell' = true := by
  intro u hu
  simp only [List.mem_cons, List.not_mem_nil, or_false] at hu
  rcases hu with rfl | rfl | rfl | rfl | rfl <;> rfl
set_option maxHeartbeats 8000000 in
theorem spec_l5Drop (id : Int) (l : List TNode) (A : Option Addr) (n c lo hi : Nat) (w : World) (hn : n ≤ 1048576) (hr : Rd w lo hi 5 A n (cNode l)) (hcap : n ≤ c) (hok : Hid (cNodeOk l)) (wid : (Lit.int .i64 id).wf = true) :
    Calls Try.prog 72 #[.slice A n c, .int .i64 id] w (MakesQ ((mDrop l id).getD l) (mDrop l id).isSome w) := by
  have HL := Lib.hid (rd_len TNode.len hr (by decide))
  have HR := Lib.hid hr
  have HC := Lib.hid hcap
  have WID := Lib.hid wid
  clear hr hcap wid
  by_cases ht : (idx l id).isSome = true
  · have HE := Lib.hid (show mDrop l id = some (l.filter (stays l id)) by unfold mDrop; rw [if_pos ht])
    have g1 : decide (mNodeOf l id < 0) = false := by have := mNodeOf_pos ht; simp; omega
    rw [HE.out]
    generalize hP : stays l id = P
    have HP := Lib.hid hP
    clear hP ht
    go_enter Try.func72, Try.ntmps72
    go_wp2_with fail
    refine (spec_NodeOf' l A n c lo hi id _ (by omega) HR.out).mono ?_
    rintro e w1 ⟨rfl, rfl⟩
    go_wp2_with fail
    go_loopg [6, 7] n (fun gg v i wr => ∃ k : Nat, k ≤ n ∧ n - k ≤ gg ∧ i = .int .i64 k ∧ Hid (wr.ownsRow w.heap.size 54 5 v ((l.take k).filter P).length (cNode ((l.take k).filter P))) ∧ Hid (Below w.heap.size w wr))
    case atStart => exact ⟨0, Nat.zero_le _, by omega, rfl, Lib.hid (World.ownsRow_lit w #[] 0 (Nat.le_refl _) (by unfold maxLen; omega) rfl), Lib.hid ((Below.refl _ _).alloc (Nat.le_refl _) _)⟩
    case round =>
      obtain ⟨k, hk, hg, rfl, HO, HB⟩ := hrel
      by_cases hlt : k < n
      · have HRw := Lib.hid (HR.out.new HB.out)
        obtain ⟨b, off, x, rfl, _, _, hz, hc⟩ := rd_elem TNode.len HRw.out HL.out hlt
        have c0 : wr.cell? ⟨b, off + k * 5, none⟩ = _ := hc 0 _ rfl
        have c1 := hc 1 _ rfl
        have c2 := hc 2 _ rfl
        have c3 := hc 3 _ rfl
        have c4 := hc 4 _ rfl
        have hbl : b < wr.heap.size := World.block_lt_of_cell? _ _ c0
        have HE2 := Lib.hid (filter_sn P hz)
        have HN := Lib.hid (Nat.le_trans (List.length_filter_le P (l.take k)) (List.length_take_le _ _))
        have HPx := Lib.hid (show (!mUnder l x.f0 id) = P x by rw [← HP.out]; rfl)
        have CU := Lib.hid (spec_IsUnder l _ n c lo hi x.f0 id wr (by omega) HRw.out HC.out hok (node_wf hok.out hz).1 WID.out)
        clear hz hc
        cases hu : mUnder l x.f0 id with
        | true =>
          rw [hu] at CU HPx
          have H2 := Lib.hid (by have := HE2.out; rwa [if_neg (by rw [← HPx.out]; decide)] at this)
          clear HE2 HPx hu
          go_wp2_with fail
          refine CU.out.mono ?_
          rintro e w1 ⟨rfl, hb1⟩
          have HB1 := Lib.hid (below_trans HB.out hb1 (Nat.le_refl _))
          have HO1 := Lib.hid (own_newer HO.out hb1)
          clear hb1 CU
          go_wp2_with fail
          have HS := Lib.hid HB1.out.size
          go_roundg (n - (k + 1))
          case measure => omega
          case rel => exact ⟨k + 1, by omega, by omega, by go_num, by rw [H2.out]; exact HO1, HB1⟩
        | false =>
          rw [hu] at CU HPx
          have H2 := Lib.hid (by have := HE2.out; rwa [if_pos (by rw [← HPx.out]; decide)] at this)
          clear HE2 HPx hu
          go_wp2_with fail
          refine CU.out.mono ?_
          rintro e w1 ⟨rfl, hb1⟩
          obtain ⟨hc1, hf1⟩ := bcell hb1
          have HB1 := Lib.hid (below_trans HB.out hb1 (Nat.le_refl _))
          have HO1 := Lib.hid (own_newer HO.out hb1)
          have d0 := (hc1 b (off + k * 5) hbl).trans c0
          have d1 := (hc1 b (off + k * 5 + 1) hbl).trans c1
          have d2 := (hc1 b (off + k * 5 + 2) hbl).trans c2
          have d3 := (hc1 b (off + k * 5 + 3) hbl).trans c3
          have d4 := (hc1 b (off + k * 5 + 4) hbl).trans c4
          have hs1 := hb1.size
          have hbl1 : b < w1.heap.size := by omega
          have HS := Lib.hid HB1.out.size
          clear hb1 hc1 hf1 CU
          go_wp2_with (at_builtin; refine wp_app_lit rfl _ _ _ rfl w.heap.size 54 (.agg #[.int .i64 0, .int .i64 0, .int .i64 0, .int .i64 0, .int .i64 0]) 5 40 Try.underlying25 icNode rfl (by decide) _ _ _ rfl HO1.out #[.int .i64 x.f0, .int .i64 x.f1, .int .i64 x.f2, .int .i64 x.f3, .int .i64 x.f4] 1 1 _ rfl (by simp) rfl (ocOne x) (by have := HN.out; unfold maxLen; omega) (by have := HN.out; omega) (by have := HS.out; omega) ?_; intro v1 w2 ho1 hb2)
          have HO2 := Lib.hid (show w2.ownsRow w.heap.size 54 5 v1 ((l.take (k + 1)).filter P).length (cNode ((l.take (k + 1)).filter P)) by rw [H2.out]; simpa [cNode, List.flatMap_append, TNode.cells] using ho1)
          have HB2 := Lib.hid (HB1.out.trans hb2)
          clear ho1 hb2
          go_wp2_with fail
          go_roundg (n - (k + 1))
          case measure => omega
          case rel => exact ⟨k + 1, by omega, by omega, by go_num, HO2, HB2⟩
      · obtain rfl : k = n := by omega
        have HO2 := Lib.hid (show wr.ownsRow w.heap.size _ _ _ (l.filter P).length (cNode (l.filter P)) by have := HO.out; rwa [List.take_of_length_le (by rw [HL.out]; omega)] at this)
        clear HO
        go_wp2_with fail
        go_ret2
        exact makesq_of_own (Nat.le_refl _) HO2.out rfl HB.out
  · have HE := Lib.hid (show mDrop l id = none by unfold mDrop; rw [if_neg ht])
    have g1 : decide (mNodeOf l id < 0) = true := by have := mNodeOf_neg (show (idx l id).isSome = false by simpa using ht); simpa using this
    rw [HE.out]
    clear ht
    go_enter Try.func72, Try.ntmps72
    go_wp2_with fail
    refine (spec_NodeOf' l A n c lo hi id _ (by omega) HR.out).mono ?_
    rintro e w1 ⟨rfl, rfl⟩
    go_wp2_with fail
    refine (l5_copy l A n c lo hi _ hn HR.out).mono ?_
    rintro e w1 ⟨v, rfl, ho, hb⟩
    have HO := Lib.hid ho
    have HB := Lib.hid hb
    clear ho hb
    go_wp2_with fail
    go_ret2
    exact makesq_of_own (Nat.le_refl _) HO.out HL.out.symm HB.out
set_option maxHeartbeats 16000000 in
theorem spec_l5Add (e : TEdit) (l : List TNode) (A : Option Addr) (n c lo hi : Nat) (w : World) (hn : n ≤ 1048576) (hr : Rd w lo hi 5 A n (cNode l)) (hcap : n ≤ c) (hdoc : mIsDoc l = true) :
    Calls Try.prog 71 #[.slice A n c, .agg #[.int .i64 e.f0, .int .i64 e.f1, .int .i64 e.f2, .int .i64 e.f3, .int .i64 e.f4, .int .i64 e.f5]] w (MakesQ ((mAdd l e).getD l) (mAdd l e).isSome w) := by
  have HL := Lib.hid (rd_len TNode.len hr (by decide))
  have hn1 : 0 < n := by
    have h := hdoc
    unfold mIsDoc at h
    rw [Bool.and_eq_true] at h
    have := inR_true.1 h.1
    have := HL.out
    omega
  have HR0 := Lib.hid (hr.old (by decide))
  have HC := Lib.hid hcap
  have HB0 := Lib.hid ((Below.refl w.heap.size w).alloc (Nat.le_refl _) (.cells #[.int .i64 e.f0, .int .i64 e.f1, .int .i64 e.f2, .int .i64 e.f3, .int .i64 e.f4, .int .i64 e.f5] 40))
  have KB0 := Lib.hid (box_new w 40 #[.int .i64 e.f0, .int .i64 e.f1, .int .i64 e.f2, .int .i64 e.f3, .int .i64 e.f4, .int .i64 e.f5])
  clear hr hcap hdoc
  cases h1 : (idx l e.f1).isSome with
  | true =>
    have g1 : decide (0 ≤ mNodeOf l e.f1) = true := by have := mNodeOf_pos h1; simp; omega
    have HE := Lib.hid (show mAdd l e = none by unfold mAdd mayAdd; simp [h1])
    go_enter Try.func71, Try.ntmps71
    go_wp2_with fail
    refine (spec_NodeOf' l A n c 0 w.heap.size e.f1 _ (by omega) (HR0.out.alloc _)).mono ?_
    rintro e1 w1 ⟨rfl, rfl⟩
    go_wp2_with fail
    refine (l5_copy l A n c 0 w.heap.size _ hn (HR0.out.alloc _)).mono ?_
    rintro e1 w1 ⟨v, rfl, ho, hb⟩
    have HO := Lib.hid ho
    have HB := Lib.hid (below_trans HB0.out hb (by simp))
    clear ho hb
    go_wp2_with fail
    go_ret2
    rw [HE.out]
    exact makesq_of_own (by simp) HO.out HL.out.symm HB.out
  | false =>
    have g1 : decide (0 ≤ mNodeOf l e.f1) = false := by have h := mNodeOf_neg h1; rw [decide_eq_false_iff_not]; omega
    cases h2 : (idx l e.f2).isSome with
    | false =>
      have g2 : decide (mNodeOf l e.f2 < 0) = true := by have h := mNodeOf_neg h2; rw [decide_eq_true_eq]; omega
      have HE := Lib.hid (show mAdd l e = none by unfold mAdd mayAdd; simp [h2])
      go_enter Try.func71, Try.ntmps71
      go_wp2_with fail
      refine (spec_NodeOf' l A n c 0 w.heap.size e.f1 _ (by omega) (HR0.out.alloc _)).mono ?_
      rintro e1 w1 ⟨rfl, rfl⟩
      go_wp2_with fail
      refine (spec_NodeOf' l A n c 0 w.heap.size e.f2 _ (by omega) (HR0.out.alloc _)).mono ?_
      rintro e1 w1 ⟨rfl, rfl⟩
      go_wp2_with fail
      refine (l5_copy l A n c 0 w.heap.size _ hn (HR0.out.alloc _)).mono ?_
      rintro e1 w1 ⟨v, rfl, ho, hb⟩
      have HO := Lib.hid ho
      have HB := Lib.hid (below_trans HB0.out hb (by simp))
      clear ho hb
      go_wp2_with fail
      go_ret2
      rw [HE.out]
      exact makesq_of_own (by simp) HO.out HL.out.symm HB.out
    | true =>
      have g2 : decide (mNodeOf l e.f2 < 0) = false := by have h := mNodeOf_pos h2; rw [decide_eq_false_iff_not]; omega
      by_cases h3 : e.f1 < e.f2
      · have g3 : decide (e.f1 < e.f2) = true := by simpa using h3
        have HE := Lib.hid (show mAdd l e = none by unfold mAdd mayAdd; simp [h3])
        clear h3
        go_enter Try.func71, Try.ntmps71
        go_wp2_with fail
        refine (spec_NodeOf' l A n c 0 w.heap.size e.f1 _ (by omega) (HR0.out.alloc _)).mono ?_
        rintro e1 w1 ⟨rfl, rfl⟩
        go_wp2_with fail
        refine (spec_NodeOf' l A n c 0 w.heap.size e.f2 _ (by omega) (HR0.out.alloc _)).mono ?_
        rintro e1 w1 ⟨rfl, rfl⟩
        go_wp2_with fail
        refine (l5_copy l A n c 0 w.heap.size _ hn (HR0.out.alloc _)).mono ?_
        rintro e1 w1 ⟨v, rfl, ho, hb⟩
        have HO := Lib.hid ho
        have HB := Lib.hid (below_trans HB0.out hb (by simp))
        clear ho hb
        go_wp2_with fail
        go_ret2
        rw [HE.out]
        exact makesq_of_own (by simp) HO.out HL.out.symm HB.out
      · have g3 : decide (e.f1 < e.f2) = false := by simpa using h3
        by_cases h4 : 16 ≤ n
        · have g4 : decide ((16 : Int) ≤ (n : Int)) = true := by simp; omega
          have HE := Lib.hid (show mAdd l e = none by unfold mAdd mayAdd; simp [HL.out, h4])
          clear h3 h4
          go_enter Try.func71, Try.ntmps71
          go_wp2_with fail
          refine (spec_NodeOf' l A n c 0 w.heap.size e.f1 _ (by omega) (HR0.out.alloc _)).mono ?_
          rintro e1 w1 ⟨rfl, rfl⟩
          go_wp2_with fail
          refine (spec_NodeOf' l A n c 0 w.heap.size e.f2 _ (by omega) (HR0.out.alloc _)).mono ?_
          rintro e1 w1 ⟨rfl, rfl⟩
          go_wp2_with fail
          refine (l5_copy l A n c 0 w.heap.size _ hn (HR0.out.alloc _)).mono ?_
          rintro e1 w1 ⟨v, rfl, ho, hb⟩
          have HO := Lib.hid ho
          have HB := Lib.hid (below_trans HB0.out hb (by simp))
          clear ho hb
          go_wp2_with fail
          go_ret2
          rw [HE.out]
          exact makesq_of_own (by simp) HO.out HL.out.symm HB.out
        · have g4 : decide ((16 : Int) ≤ (n : Int)) = false := by simp; omega
          have HE := Lib.hid (show mAdd l e = some (insAt l e) by unfold mAdd mayAdd; simp [h1, h2, HL.out, h3, h4])
          clear h3 h4
          go_enter Try.func71, Try.ntmps71
          go_wp2_with fail
          refine (spec_NodeOf' l A n c 0 w.heap.size e.f1 _ (by omega) (HR0.out.alloc _)).mono ?_
          rintro e1 w1 ⟨rfl, rfl⟩
          go_wp2_with fail
          refine (spec_NodeOf' l A n c 0 w.heap.size e.f2 _ (by omega) (HR0.out.alloc _)).mono ?_
          rintro e1 w1 ⟨rfl, rfl⟩
          go_wp2_with fail
          clear g1 g2 g3 g4 h1 h2
          go_loopg [6] n (fun gg i wr => ∃ k : Nat, k ≤ n ∧ n - k ≤ gg ∧ i = .int .i64 k ∧ Hid (BoxAt wr w.heap.size 40 #[.int .i64 e.f0, .int .i64 e.f1, .int .i64 e.f2, .int .i64 e.f3, .int .i64 e.f4, .int .i64 e.f5]) ∧ Hid (Below w.heap.size w wr) ∧ Hid (∀ x ∈ l.take k, ahead e.f1 x = true))
          case atStart => exact ⟨0, Nat.zero_le _, by omega, rfl, KB0, HB0, Lib.hid (fun x hx => by simp at hx)⟩
          case round =>
            obtain ⟨k, hk, hg, rfl, KB, HB, HM⟩ := hrel
            have k0 := KB.out.at_ (j := 0) rfl
            have k1 := KB.out.at_ (j := 1) rfl
            have k2 := KB.out.at_ (j := 2) rfl
            have k3 := KB.out.at_ (j := 3) rfl
            have k4 := KB.out.at_ (j := 4) rfl
            have k5 := KB.out.at_ (j := 5) rfl
            have hkl := KB.out.lt
            by_cases hlt : k < n
            · obtain ⟨b, off, x, rfl, _, _, hz, hc⟩ := rd_elem TNode.len (HR0.out.below HB.out (Nat.le_refl _)) HL.out hlt
              have c0 : wr.cell? ⟨b, off + k * 5, none⟩ = _ := hc 0 _ rfl
              by_cases hx : x.f0 < e.f1
              · have hd : decide (x.f0 < e.f1) = true := by simpa using hx
                have HM1 := Lib.hid (show ∀ y ∈ l.take (k + 1), ahead e.f1 y = true from fun y hy => by
                  rw [List.take_add_one, hz] at hy
                  rcases List.mem_append.1 hy with hy | hy
                  · exact HM.out y hy
                  · simp at hy; subst hy; exact hd)
                clear hz hc hx
                go_wp2_with fail
                go_quiet (fail)
                go_wp2_with fail
                go_roundg (n - (k + 1))
                case rel => exact ⟨k + 1, by omega, by omega, by go_num, Lib.hid (BoxAt.keep KB.out rfl), Lib.hid (below_dN HB.out _), HM1⟩
                case measure => omega
              · have hd : decide (x.f0 < e.f1) = false := by simpa using hx
                have HI := Lib.hid (ins_at HM.out (fun y hy => by rw [hz] at hy; injection hy with hy; subst hy; exact hd))
                have hkc : k ≤ c := by have := HC.out; omega
                have hck : ¬ c = k := by have := HC.out; omega
                have HX0 := Lib.hid hc
                clear hz hc hx
                go_wp2_with fail
                go_quiet (fail)
                have KBd := Lib.hid (show BoxAt (World.drewN wr nq) _ _ _ from KB.out)
                have HBd := Lib.hid (below_dN HB.out nq)
                clear k0 k1 k2 k3 k4 k5 hkl KB HB
                generalize World.drewN wr nq = wy at KBd HBd ⊢
                have KB := KBd
                have HB := HBd
                clear KBd HBd
                have k0 := KB.out.at_ (j := 0) rfl
                have k1 := KB.out.at_ (j := 1) rfl
                have k2 := KB.out.at_ (j := 2) rfl
                have k3 := KB.out.at_ (j := 3) rfl
                have k4 := KB.out.at_ (j := 4) rfl
                have k5 := KB.out.at_ (j := 5) rfl
                have hkl := KB.out.lt
                have KZ := box_new wy 54 #[.int .i64 0, .int .i64 0, .int .i64 0, .int .i64 0, .int .i64 0]
                have KX := Lib.hid (box_row (cs := #[.int .i64 e.f1, .int .i64 e.f2, .int .i64 e.f3, .int .i64 e.f4, .int .i64 e.f5]) KZ)
                have HBx := Lib.hid (below_setRow (HB.out.alloc HB.out.size (.cells #[.int .i64 0, .int .i64 0, .int .i64 0, .int .i64 0, .int .i64 0] 54)) HB.out.size #[.int .i64 e.f1, .int .i64 e.f2, .int .i64 e.f3, .int .i64 e.f4, .int .i64 e.f5])
                have HKZ := Lib.hid KZ
                have HS := HB.out.size
                clear KZ
                go_wp2_with (refine wpList_store_row rfl 54 _ _ rfl wy.heap.size #[.int .i64 e.f1, .int .i64 e.f2, .int .i64 e.f3, .int .i64 e.f4, .int .i64 e.f5] rfl rfl 54 _ HKZ.out (by kernel_rfl) (by kernel_rfl) (by kernel_rfl) ?_; generalize hW3 : World.setRow (wy.alloc (.cells #[.int .i64 0, .int .i64 0, .int .i64 0, .int .i64 0, .int .i64 0] 54)) wy.heap.size #[.int .i64 e.f1, .int .i64 e.f2, .int .i64 e.f3, .int .i64 e.f4, .int .i64 e.f5] = w3 at KX HBx ⊢)
                have HT3 := Lib.hid (rdN_take (HR0.out.below HBx.out (Nat.le_refl _)) (show k ≤ n by omega))
                have HD3 := Lib.hid (rdN_drop (HR0.out.below HBx.out (Nat.le_refl _)) (show k ≤ n by omega))
                have hx3 := KX.out.lt
                clear hW3 HKZ
                refine wp_region_held_drew (S := fun w' => BoxAt w' wy.heap.size 54 #[.int .i64 e.f1, .int .i64 e.f2, .int .i64 e.f3, .int .i64 e.f4, .int .i64 e.f5] ∧ Below w3.heap.size w3 w') (by kernel_rfl) ?_ (fun hHeld => ?_)
                · exact ⟨KX.out.drw, (Below.refl _ _).drew⟩
                generalize (World.drew _) = x0 at hHeld ⊢
                refine wpAnyH_take (i := 0) (oi := ⟨some 61, _, _, _, _, _⟩) (v := ?_) rfl (by kernel_rfl) (by kernel_rfl) (by kernel_rfl) (fun _ _ _ h => h) (Or.inl ⟨by kernel_rfl, ?_⟩) hHeld ?_
                rotate_left
                focus (intro W hS; have c0_0 := (hS.1).at_ (j := 0) rfl; have c0_1 := (hS.1).at_ (j := 1) rfl; have c0_2 := (hS.1).at_ (j := 2) rfl; have c0_3 := (hS.1).at_ (j := 3) rfl; have c0_4 := (hS.1).at_ (j := 4) rfl; clear hS; first | (go_simp; done) | (go_simp; with_reducible rfl))
                try simp only [Act.put, List.setIfInBounds_toArray, List.set_cons_zero, List.set_cons_succ]
                refine wpAnyH_take (i := 1) (oi := ⟨some 62, _, _, _, _, _⟩) (v := ?_) rfl (by kernel_rfl) (by kernel_rfl) (by kernel_rfl) (fun _ _ _ h => h) (Or.inl ⟨by kernel_rfl, ?_⟩) hHeld ?_
                rotate_left
                focus (intro W hS; have c0_0 := (hS.1).at_ (j := 0) rfl; have c0_1 := (hS.1).at_ (j := 1) rfl; have c0_2 := (hS.1).at_ (j := 2) rfl; have c0_3 := (hS.1).at_ (j := 3) rfl; have c0_4 := (hS.1).at_ (j := 4) rfl; clear hS; first | (go_simp; done) | (go_simp; with_reducible rfl))
                try simp only [Act.put, List.setIfInBounds_toArray, List.set_cons_zero, List.set_cons_succ]
                refine wpAnyH_take (i := 2) (oi := ⟨some 63, _, _, _, _, _⟩) (v := ?_) rfl (by kernel_rfl) (by kernel_rfl) (by kernel_rfl) (fun _ _ _ h => h) (Or.inl ⟨by kernel_rfl, ?_⟩) hHeld ?_
                rotate_left
                focus (intro W hS; have c0_0 := (hS.1).at_ (j := 0) rfl; have c0_1 := (hS.1).at_ (j := 1) rfl; have c0_2 := (hS.1).at_ (j := 2) rfl; have c0_3 := (hS.1).at_ (j := 3) rfl; have c0_4 := (hS.1).at_ (j := 4) rfl; clear hS; first | (go_simp; done) | (go_simp; with_reducible rfl))
                try simp only [Act.put, List.setIfInBounds_toArray, List.set_cons_zero, List.set_cons_succ]
                refine wpAnyH_take (i := 4) (oi := ⟨some 65, _, _, _, _, _⟩) (v := ?_) rfl (by kernel_rfl) (by kernel_rfl) (by kernel_rfl) (fun _ _ _ h => h) (Or.inl ⟨by kernel_rfl, ?_⟩) hHeld ?_
                rotate_left
                focus (intro W hS; have c0_0 := (hS.1).at_ (j := 0) rfl; have c0_1 := (hS.1).at_ (j := 1) rfl; have c0_2 := (hS.1).at_ (j := 2) rfl; have c0_3 := (hS.1).at_ (j := 3) rfl; have c0_4 := (hS.1).at_ (j := 4) rfl; clear hS; first | (go_simp; done) | (go_simp; with_reducible rfl))
                try simp only [Act.put, List.setIfInBounds_toArray, List.set_cons_zero, List.set_cons_succ]
                refine wpAnyH_take (i := 7) (oi := ⟨some 68, _, _, _, _, _⟩) (v := ?_) rfl (by kernel_rfl) (by kernel_rfl) (by kernel_rfl) (fun _ _ _ h => h) (Or.inl ⟨by kernel_rfl, ?_⟩) hHeld ?_
                rotate_left
                focus (intro W hS; have c0_0 := (hS.1).at_ (j := 0) rfl; have c0_1 := (hS.1).at_ (j := 1) rfl; have c0_2 := (hS.1).at_ (j := 2) rfl; have c0_3 := (hS.1).at_ (j := 3) rfl; have c0_4 := (hS.1).at_ (j := 4) rfl; clear hS; first | (go_simp; done) | (go_simp; with_reducible rfl))
                try simp only [Act.put, List.setIfInBounds_toArray, List.set_cons_zero, List.set_cons_succ]
                refine wpAnyH_take (i := 8) (oi := ⟨some 69, _, _, _, _, _⟩) (v := ?_) rfl (by kernel_rfl) (by kernel_rfl) (by kernel_rfl) (fun _ _ _ h => h) (Or.inl ⟨by kernel_rfl, ?_⟩) hHeld ?_
                rotate_left
                focus (intro W hS; have c0_0 := (hS.1).at_ (j := 0) rfl; have c0_1 := (hS.1).at_ (j := 1) rfl; have c0_2 := (hS.1).at_ (j := 2) rfl; have c0_3 := (hS.1).at_ (j := 3) rfl; have c0_4 := (hS.1).at_ (j := 4) rfl; clear hS; first | (go_simp; done) | (go_simp; with_reducible rfl))
                try simp only [Act.put, List.setIfInBounds_toArray, List.set_cons_zero, List.set_cons_succ]
                refine wpAnyH_take (i := 9) (oi := ⟨some 70, _, _, _, _, _⟩) (v := ?_) rfl (by kernel_rfl) (by kernel_rfl) (by kernel_rfl) (fun _ _ _ h => h) (Or.inl ⟨by kernel_rfl, ?_⟩) hHeld ?_
                rotate_left
                focus (intro W hS; have c0_0 := (hS.1).at_ (j := 0) rfl; have c0_1 := (hS.1).at_ (j := 1) rfl; have c0_2 := (hS.1).at_ (j := 2) rfl; have c0_3 := (hS.1).at_ (j := 3) rfl; have c0_4 := (hS.1).at_ (j := 4) rfl; clear hS; first | (go_simp; done) | (go_simp; with_reducible rfl))
                try simp only [Act.put, List.setIfInBounds_toArray, List.set_cons_zero, List.set_cons_succ]
                refine wpAnyH_ready (rs := [3, 5]) (by kernel_rfl) (by simp) ?_
                refine AllReadyH.cons (o := ⟨some 64, _, _, _, _, _⟩) rfl (fun K hK => ?_) ?_
                · skip
                  go_simp
                  refine Calls.mono (l5_base w3.heap.size (l.take k) _ k c 0 w.heap.size _ hHeld.2.size (by omega) (HT3.out.new hHeld.2)) ?_
                  rintro e x1 ⟨vK, rfl, GK, hb1⟩
                  refine hK.out _ _ ⟨hHeld.1.new hb1, below_trans hHeld.2 hb1 (Nat.le_refl _)⟩ (fun hHeld' => ?_)
                  clear hK K hHeld hb1
                  have hHeld := hHeld'
                  clear hHeld'
                  try simp only [Act.put, List.setIfInBounds_toArray, List.set_cons_zero, List.set_cons_succ]
                  refine wpAnyH_ready (rs := [5]) (by kernel_rfl) (by simp) ?_
                  refine AllReadyH.cons (o := ⟨some 66, _, _, _, _, _⟩) rfl (fun K hK => ?_) AllReadyH.nil
                  go_simp
                  have Gb5 := box_new (x1) 54 #[.int .i64 e.f1, .int .i64 e.f2, .int .i64 e.f3, .int .i64 e.f4, .int .i64 e.f5]
                  have hb1 := (Below.refl (x1).heap.size (x1)).alloc (Nat.le_refl _) (.cells #[.int .i64 e.f1, .int .i64 e.f2, .int .i64 e.f3, .int .i64 e.f4, .int .i64 e.f5] 54)
                  have Lb5 : w3.heap.size ≤ (x1).heap.size := by have := (hHeld.1).lt; have := (hHeld.2).size; omega
                  have M0b5 : wy.heap.size < (x1).heap.size := (hHeld.1).lt
                  replace GK := own_newer GK hb1
                  generalize (x1).alloc (.cells #[.int .i64 e.f1, .int .i64 e.f2, .int .i64 e.f3, .int .i64 e.f4, .int .i64 e.f5] 54) = x2 at hb1 Gb5 GK ⊢
                  generalize hg : (x1).heap.size = gb5 at Gb5 Lb5 M0b5 ⊢
                  clear hg
                  refine hK.out _ _ ⟨hHeld.1.new hb1, below_trans hHeld.2 hb1 (Nat.le_refl _)⟩ (fun hHeld' => ?_)
                  clear hK K hHeld hb1
                  have hHeld := hHeld'
                  clear hHeld'
                  try simp only [Act.put, List.setIfInBounds_toArray, List.set_cons_zero, List.set_cons_succ]
                  refine wpAnyH_ready (rs := [6]) (by kernel_rfl) (by simp) ?_
                  refine AllReadyH.cons (o := ⟨some 67, _, _, _, _, _⟩) rfl (fun K hK => ?_) AllReadyH.nil
                  refine step_appo rfl _ _ _ (by rfl) w3.heap.size 54 (.agg #[.int .i64 0, .int .i64 0, .int .i64 0, .int .i64 0, .int .i64 0]) 5 40 Try.underlying25 icNode rfl (by decide) vK (by rfl) (k) ((cNode (l.take k))) GK gb5 (gb5 + 1) (some ⟨gb5, 0, none⟩) 1 1 (#[.int .i64 e.f1, .int .i64 e.f2, .int .i64 e.f3, .int .i64 e.f4, .int .i64 e.f5] : Array Value).toList (by rfl) (rd_box5 Gb5 rfl) (one_node e) (by unfold maxLen; omega) (by omega) (by have := (hHeld.2).size; omega) ?_
                  intro Vp2 x3 hO hb0 hgr
                  have hsz0 := hb0.size
                  clear Gb5
                  have OWp2 := hO
                  have hb1 := hb0.mono (show w3.heap.size ≤ w3.heap.size by omega)
                  refine hK.out _ _ ⟨(by have := (hHeld.1).lt; exact hHeld.1.chg (chg_of_below hb0) (by omega)), (hHeld.2).trans hb1⟩ (fun hHeld' => ?_)
                  clear hK K hHeld hb1 hb0 hgr hO
                  have hHeld := hHeld'
                  clear hHeld'
                  try simp only [Act.put, List.setIfInBounds_toArray, List.set_cons_zero, List.set_cons_succ]
                  refine wpAnyH_ready (rs := [10]) (by kernel_rfl) (by simp) ?_
                  refine AllReadyH.cons (o := ⟨some 71, _, _, _, _, _⟩) rfl (fun K hK => ?_) AllReadyH.nil
                  refine step_appo rfl _ _ _ (by rfl) w3.heap.size 54 (.agg #[.int .i64 0, .int .i64 0, .int .i64 0, .int .i64 0, .int .i64 0]) 5 40 Try.underlying25 icNode rfl (by decide) Vp2 (by rfl) ((k + 1)) ((cNode (l.take k) ++ (#[.int .i64 e.f1, .int .i64 e.f2, .int .i64 e.f3, .int .i64 e.f4, .int .i64 e.f5] : Array Value).toList)) OWp2 0 w.heap.size _ (n - k) _ (cNode (l.drop k)) (by rfl) (HD3.out.new hHeld.2) (ocNode _) (by unfold maxLen; omega) (by omega) (by have := (hHeld.2).size; omega) ?_
                  intro Vp3 x4 hO hb0 hgr
                  have hsz0 := hb0.size
                  have OWp3 := hO
                  have hb1 := hb0.mono (show w3.heap.size ≤ w3.heap.size by omega)
                  refine hK.out _ _ ⟨(by have := (hHeld.1).lt; exact hHeld.1.chg (chg_of_below hb0) (by omega)), (hHeld.2).trans hb1⟩ (fun hHeld' => ?_)
                  clear hK K hHeld hb1 hb0 hgr hO
                  have hHeld := hHeld'
                  clear hHeld'
                  try simp only [Act.put, List.setIfInBounds_toArray, List.set_cons_zero, List.set_cons_succ]
                  refine wpAnyH_take (i := 11) (oi := ⟨some 4, _, _, _, _, _⟩) (v := ?_) rfl (by kernel_rfl) (by kernel_rfl) (by kernel_rfl) (fun _ _ _ h => h) (Or.inl ⟨by kernel_rfl, ?_⟩) hHeld ?_
                  rotate_left
                  focus (intro W hS; have c0_0 := (hS.1).at_ (j := 0) rfl; have c0_1 := (hS.1).at_ (j := 1) rfl; have c0_2 := (hS.1).at_ (j := 2) rfl; have c0_3 := (hS.1).at_ (j := 3) rfl; have c0_4 := (hS.1).at_ (j := 4) rfl; clear hS; first | (go_simp; done) | (go_simp; with_reducible rfl))
                  try simp only [Act.put, List.setIfInBounds_toArray, List.set_cons_zero, List.set_cons_succ]
                  refine wpAnyH_take (i := 12) (oi := ⟨some 5, _, _, _, _, _⟩) (v := ?_) rfl (by kernel_rfl) (by kernel_rfl) (by kernel_rfl) (fun _ _ _ h => h) (Or.inl ⟨by kernel_rfl, ?_⟩) hHeld ?_
                  rotate_left
                  focus (intro W hS; have c0_0 := (hS.1).at_ (j := 0) rfl; have c0_1 := (hS.1).at_ (j := 1) rfl; have c0_2 := (hS.1).at_ (j := 2) rfl; have c0_3 := (hS.1).at_ (j := 3) rfl; have c0_4 := (hS.1).at_ (j := 4) rfl; clear hS; first | (go_simp; done) | (go_simp; with_reducible rfl))
                  try simp only [Act.put, List.setIfInBounds_toArray, List.set_cons_zero, List.set_cons_succ]
                  refine wpAnyH_done (by kernel_rfl) ?_ _
                  go_wp2_with fail
                  go_ret2
                  have hO := OWp3
                  have e2 : cNode (l.take k) ++ (#[.int .i64 e.f1, .int .i64 e.f2, .int .i64 e.f3, .int .i64 e.f4, .int .i64 e.f5] : Array Value).toList ++ cNode (l.drop k) = cNode (insAt l e) := by rw [HI.out]; simp [cNode, TNode.cells, nAdd, List.flatMap_append]
                  rw [e2] at hO
                  rw [HE.out]
                  exact makesq_of_own HBx.out.size hO (by show _ = (insAt l e).length; rw [ins_len, HL.out]; try omega) (HBx.out.trans (hHeld.2.mono HBx.out.size))
                refine AllReadyH.cons (o := ⟨some 66, _, _, _, _, _⟩) rfl (fun K hK => ?_) ?_
                · skip
                  go_simp
                  have Gb5 := box_new (x0) 54 #[.int .i64 e.f1, .int .i64 e.f2, .int .i64 e.f3, .int .i64 e.f4, .int .i64 e.f5]
                  have hb1 := (Below.refl (x0).heap.size (x0)).alloc (Nat.le_refl _) (.cells #[.int .i64 e.f1, .int .i64 e.f2, .int .i64 e.f3, .int .i64 e.f4, .int .i64 e.f5] 54)
                  have Lb5 : w3.heap.size ≤ (x0).heap.size := by have := (hHeld.1).lt; have := (hHeld.2).size; omega
                  have M0b5 : wy.heap.size < (x0).heap.size := (hHeld.1).lt
                  generalize (x0).alloc (.cells #[.int .i64 e.f1, .int .i64 e.f2, .int .i64 e.f3, .int .i64 e.f4, .int .i64 e.f5] 54) = x1 at hb1 Gb5  ⊢
                  generalize hg : (x0).heap.size = gb5 at Gb5 Lb5 M0b5 ⊢
                  clear hg
                  refine hK.out _ _ ⟨hHeld.1.new hb1, below_trans hHeld.2 hb1 (Nat.le_refl _)⟩ (fun hHeld' => ?_)
                  clear hK K hHeld hb1
                  have hHeld := hHeld'
                  clear hHeld'
                  try simp only [Act.put, List.setIfInBounds_toArray, List.set_cons_zero, List.set_cons_succ]
                  refine wpAnyH_ready (rs := [3]) (by kernel_rfl) (by simp) ?_
                  refine AllReadyH.cons (o := ⟨some 64, _, _, _, _, _⟩) rfl (fun K hK => ?_) AllReadyH.nil
                  go_simp
                  refine Calls.mono (l5_base w3.heap.size (l.take k) _ k c 0 w.heap.size _ hHeld.2.size (by omega) (HT3.out.new hHeld.2)) ?_
                  rintro e x2 ⟨vK, rfl, GK, hb1⟩
                  replace Gb5 := Gb5.new hb1
                  refine hK.out _ _ ⟨hHeld.1.new hb1, below_trans hHeld.2 hb1 (Nat.le_refl _)⟩ (fun hHeld' => ?_)
                  clear hK K hHeld hb1
                  have hHeld := hHeld'
                  clear hHeld'
                  try simp only [Act.put, List.setIfInBounds_toArray, List.set_cons_zero, List.set_cons_succ]
                  refine wpAnyH_ready (rs := [6]) (by kernel_rfl) (by simp) ?_
                  refine AllReadyH.cons (o := ⟨some 67, _, _, _, _, _⟩) rfl (fun K hK => ?_) AllReadyH.nil
                  refine step_appo rfl _ _ _ (by rfl) w3.heap.size 54 (.agg #[.int .i64 0, .int .i64 0, .int .i64 0, .int .i64 0, .int .i64 0]) 5 40 Try.underlying25 icNode rfl (by decide) vK (by rfl) (k) ((cNode (l.take k))) GK gb5 (gb5 + 1) (some ⟨gb5, 0, none⟩) 1 1 (#[.int .i64 e.f1, .int .i64 e.f2, .int .i64 e.f3, .int .i64 e.f4, .int .i64 e.f5] : Array Value).toList (by rfl) (rd_box5 Gb5 rfl) (one_node e) (by unfold maxLen; omega) (by omega) (by have := (hHeld.2).size; omega) ?_
                  intro Vp2 x3 hO hb0 hgr
                  have hsz0 := hb0.size
                  clear Gb5
                  have OWp2 := hO
                  have hb1 := hb0.mono (show w3.heap.size ≤ w3.heap.size by omega)
                  refine hK.out _ _ ⟨(by have := (hHeld.1).lt; exact hHeld.1.chg (chg_of_below hb0) (by omega)), (hHeld.2).trans hb1⟩ (fun hHeld' => ?_)
                  clear hK K hHeld hb1 hb0 hgr hO
                  have hHeld := hHeld'
                  clear hHeld'
                  try simp only [Act.put, List.setIfInBounds_toArray, List.set_cons_zero, List.set_cons_succ]
                  refine wpAnyH_ready (rs := [10]) (by kernel_rfl) (by simp) ?_
                  refine AllReadyH.cons (o := ⟨some 71, _, _, _, _, _⟩) rfl (fun K hK => ?_) AllReadyH.nil
                  refine step_appo rfl _ _ _ (by rfl) w3.heap.size 54 (.agg #[.int .i64 0, .int .i64 0, .int .i64 0, .int .i64 0, .int .i64 0]) 5 40 Try.underlying25 icNode rfl (by decide) Vp2 (by rfl) ((k + 1)) ((cNode (l.take k) ++ (#[.int .i64 e.f1, .int .i64 e.f2, .int .i64 e.f3, .int .i64 e.f4, .int .i64 e.f5] : Array Value).toList)) OWp2 0 w.heap.size _ (n - k) _ (cNode (l.drop k)) (by rfl) (HD3.out.new hHeld.2) (ocNode _) (by unfold maxLen; omega) (by omega) (by have := (hHeld.2).size; omega) ?_
                  intro Vp3 x4 hO hb0 hgr
                  have hsz0 := hb0.size
                  have OWp3 := hO
                  have hb1 := hb0.mono (show w3.heap.size ≤ w3.heap.size by omega)
                  refine hK.out _ _ ⟨(by have := (hHeld.1).lt; exact hHeld.1.chg (chg_of_below hb0) (by omega)), (hHeld.2).trans hb1⟩ (fun hHeld' => ?_)
                  clear hK K hHeld hb1 hb0 hgr hO
                  have hHeld := hHeld'
                  clear hHeld'
                  try simp only [Act.put, List.setIfInBounds_toArray, List.set_cons_zero, List.set_cons_succ]
                  refine wpAnyH_take (i := 11) (oi := ⟨some 4, _, _, _, _, _⟩) (v := ?_) rfl (by kernel_rfl) (by kernel_rfl) (by kernel_rfl) (fun _ _ _ h => h) (Or.inl ⟨by kernel_rfl, ?_⟩) hHeld ?_
                  rotate_left
                  focus (intro W hS; have c0_0 := (hS.1).at_ (j := 0) rfl; have c0_1 := (hS.1).at_ (j := 1) rfl; have c0_2 := (hS.1).at_ (j := 2) rfl; have c0_3 := (hS.1).at_ (j := 3) rfl; have c0_4 := (hS.1).at_ (j := 4) rfl; clear hS; first | (go_simp; done) | (go_simp; with_reducible rfl))
                  try simp only [Act.put, List.setIfInBounds_toArray, List.set_cons_zero, List.set_cons_succ]
                  refine wpAnyH_take (i := 12) (oi := ⟨some 5, _, _, _, _, _⟩) (v := ?_) rfl (by kernel_rfl) (by kernel_rfl) (by kernel_rfl) (fun _ _ _ h => h) (Or.inl ⟨by kernel_rfl, ?_⟩) hHeld ?_
                  rotate_left
                  focus (intro W hS; have c0_0 := (hS.1).at_ (j := 0) rfl; have c0_1 := (hS.1).at_ (j := 1) rfl; have c0_2 := (hS.1).at_ (j := 2) rfl; have c0_3 := (hS.1).at_ (j := 3) rfl; have c0_4 := (hS.1).at_ (j := 4) rfl; clear hS; first | (go_simp; done) | (go_simp; with_reducible rfl))
                  try simp only [Act.put, List.setIfInBounds_toArray, List.set_cons_zero, List.set_cons_succ]
                  refine wpAnyH_done (by kernel_rfl) ?_ _
                  go_wp2_with fail
                  go_ret2
                  have hO := OWp3
                  have e2 : cNode (l.take k) ++ (#[.int .i64 e.f1, .int .i64 e.f2, .int .i64 e.f3, .int .i64 e.f4, .int .i64 e.f5] : Array Value).toList ++ cNode (l.drop k) = cNode (insAt l e) := by rw [HI.out]; simp [cNode, TNode.cells, nAdd, List.flatMap_append]
                  rw [e2] at hO
                  rw [HE.out]
                  exact makesq_of_own HBx.out.size hO (by show _ = (insAt l e).length; rw [ins_len, HL.out]; try omega) (HBx.out.trans (hHeld.2.mono HBx.out.size))
                exact AllReadyH.nil
            · obtain rfl : n = k := by omega
              have HI := Lib.hid (ins_at HM.out (fun y hy => by have := (List.getElem?_eq_some_iff.1 hy).1; have := HL.out; omega))
              have hkc : n ≤ c := HC.out
              by_cases hcn : c = n
              · obtain rfl : n = c := hcn.symm
                go_wp2_with fail
                go_quiet (fail)
                have KBd := Lib.hid (show BoxAt (World.drewN wr nq) _ _ _ from KB.out)
                have HBd := Lib.hid (below_dN HB.out nq)
                clear k0 k1 k2 k3 k4 k5 hkl KB HB
                generalize World.drewN wr nq = wy at KBd HBd ⊢
                have KB := KBd
                have HB := HBd
                clear KBd HBd
                have k0 := KB.out.at_ (j := 0) rfl
                have k1 := KB.out.at_ (j := 1) rfl
                have k2 := KB.out.at_ (j := 2) rfl
                have k3 := KB.out.at_ (j := 3) rfl
                have k4 := KB.out.at_ (j := 4) rfl
                have k5 := KB.out.at_ (j := 5) rfl
                have hkl := KB.out.lt
                have KZ := box_new wy 54 #[.int .i64 0, .int .i64 0, .int .i64 0, .int .i64 0, .int .i64 0]
                have KX := Lib.hid (box_row (cs := #[.int .i64 e.f1, .int .i64 e.f2, .int .i64 e.f3, .int .i64 e.f4, .int .i64 e.f5]) KZ)
                have HBx := Lib.hid (below_setRow (HB.out.alloc HB.out.size (.cells #[.int .i64 0, .int .i64 0, .int .i64 0, .int .i64 0, .int .i64 0] 54)) HB.out.size #[.int .i64 e.f1, .int .i64 e.f2, .int .i64 e.f3, .int .i64 e.f4, .int .i64 e.f5])
                have HKZ := Lib.hid KZ
                have HS := HB.out.size
                clear KZ
                go_wp2_with (refine wpList_store_row rfl 54 _ _ rfl wy.heap.size #[.int .i64 e.f1, .int .i64 e.f2, .int .i64 e.f3, .int .i64 e.f4, .int .i64 e.f5] rfl rfl 54 _ HKZ.out (by kernel_rfl) (by kernel_rfl) (by kernel_rfl) ?_; generalize hW3 : World.setRow (wy.alloc (.cells #[.int .i64 0, .int .i64 0, .int .i64 0, .int .i64 0, .int .i64 0] 54)) wy.heap.size #[.int .i64 e.f1, .int .i64 e.f2, .int .i64 e.f3, .int .i64 e.f4, .int .i64 e.f5] = w3 at KX HBx ⊢)
                have HT3 := Lib.hid (rdN_take (HR0.out.below HBx.out (Nat.le_refl _)) (show n ≤ n by omega))
                have hx3 := KX.out.lt
                clear hW3 HKZ
                refine wp_region_held_drew (S := fun w' => BoxAt w' wy.heap.size 54 #[.int .i64 e.f1, .int .i64 e.f2, .int .i64 e.f3, .int .i64 e.f4, .int .i64 e.f5] ∧ Below w3.heap.size w3 w') (by kernel_rfl) ?_ (fun hHeld => ?_)
                · exact ⟨KX.out.drw, (Below.refl _ _).drew⟩
                generalize (World.drew _) = x0 at hHeld ⊢
                refine wpAnyH_take (i := 0) (oi := ⟨some 61, _, _, _, _, _⟩) (v := ?_) rfl (by kernel_rfl) (by kernel_rfl) (by kernel_rfl) (fun _ _ _ h => h) (Or.inl ⟨by kernel_rfl, ?_⟩) hHeld ?_
                rotate_left
                focus (intro W hS; have c0_0 := (hS.1).at_ (j := 0) rfl; have c0_1 := (hS.1).at_ (j := 1) rfl; have c0_2 := (hS.1).at_ (j := 2) rfl; have c0_3 := (hS.1).at_ (j := 3) rfl; have c0_4 := (hS.1).at_ (j := 4) rfl; clear hS; first | (go_simp; done) | (go_simp; with_reducible rfl))
                try simp only [Act.put, List.setIfInBounds_toArray, List.set_cons_zero, List.set_cons_succ]
                refine wpAnyH_take (i := 1) (oi := ⟨some 62, _, _, _, _, _⟩) (v := ?_) rfl (by kernel_rfl) (by kernel_rfl) (by kernel_rfl) (fun _ _ _ h => h) (Or.inl ⟨by kernel_rfl, ?_⟩) hHeld ?_
                rotate_left
                focus (intro W hS; have c0_0 := (hS.1).at_ (j := 0) rfl; have c0_1 := (hS.1).at_ (j := 1) rfl; have c0_2 := (hS.1).at_ (j := 2) rfl; have c0_3 := (hS.1).at_ (j := 3) rfl; have c0_4 := (hS.1).at_ (j := 4) rfl; clear hS; first | (go_simp; done) | (go_simp; with_reducible rfl))
                try simp only [Act.put, List.setIfInBounds_toArray, List.set_cons_zero, List.set_cons_succ]
                refine wpAnyH_take (i := 2) (oi := ⟨some 63, _, _, _, _, _⟩) (v := ?_) rfl (by kernel_rfl) (by kernel_rfl) (by kernel_rfl) (fun _ _ _ h => h) (Or.inl ⟨by kernel_rfl, ?_⟩) hHeld ?_
                rotate_left
                focus (intro W hS; have c0_0 := (hS.1).at_ (j := 0) rfl; have c0_1 := (hS.1).at_ (j := 1) rfl; have c0_2 := (hS.1).at_ (j := 2) rfl; have c0_3 := (hS.1).at_ (j := 3) rfl; have c0_4 := (hS.1).at_ (j := 4) rfl; clear hS; first | (go_simp; done) | (go_simp; with_reducible rfl))
                try simp only [Act.put, List.setIfInBounds_toArray, List.set_cons_zero, List.set_cons_succ]
                refine wpAnyH_take (i := 4) (oi := ⟨some 65, _, _, _, _, _⟩) (v := ?_) rfl (by kernel_rfl) (by kernel_rfl) (by kernel_rfl) (fun _ _ _ h => h) (Or.inl ⟨by kernel_rfl, ?_⟩) hHeld ?_
                rotate_left
                focus (intro W hS; have c0_0 := (hS.1).at_ (j := 0) rfl; have c0_1 := (hS.1).at_ (j := 1) rfl; have c0_2 := (hS.1).at_ (j := 2) rfl; have c0_3 := (hS.1).at_ (j := 3) rfl; have c0_4 := (hS.1).at_ (j := 4) rfl; clear hS; first | (go_simp; done) | (go_simp; with_reducible rfl))
                try simp only [Act.put, List.setIfInBounds_toArray, List.set_cons_zero, List.set_cons_succ]
                refine wpAnyH_take (i := 7) (oi := ⟨some 68, _, _, _, _, _⟩) (v := ?_) rfl (by kernel_rfl) (by kernel_rfl) (by kernel_rfl) (fun _ _ _ h => h) (Or.inl ⟨by kernel_rfl, ?_⟩) hHeld ?_
                rotate_left
                focus (intro W hS; have c0_0 := (hS.1).at_ (j := 0) rfl; have c0_1 := (hS.1).at_ (j := 1) rfl; have c0_2 := (hS.1).at_ (j := 2) rfl; have c0_3 := (hS.1).at_ (j := 3) rfl; have c0_4 := (hS.1).at_ (j := 4) rfl; clear hS; first | (go_simp; done) | (go_simp; with_reducible rfl))
                try simp only [Act.put, List.setIfInBounds_toArray, List.set_cons_zero, List.set_cons_succ]
                refine wpAnyH_take (i := 8) (oi := ⟨some 69, _, _, _, _, _⟩) (v := ?_) rfl (by kernel_rfl) (by kernel_rfl) (by kernel_rfl) (fun _ _ _ h => h) (Or.inl ⟨by kernel_rfl, ?_⟩) hHeld ?_
                rotate_left
                focus (intro W hS; have c0_0 := (hS.1).at_ (j := 0) rfl; have c0_1 := (hS.1).at_ (j := 1) rfl; have c0_2 := (hS.1).at_ (j := 2) rfl; have c0_3 := (hS.1).at_ (j := 3) rfl; have c0_4 := (hS.1).at_ (j := 4) rfl; clear hS; first | (go_simp; done) | (go_simp; with_reducible rfl))
                try simp only [Act.put, List.setIfInBounds_toArray, List.set_cons_zero, List.set_cons_succ]
                refine wpAnyH_take (i := 9) (oi := ⟨some 70, _, _, _, _, _⟩) (v := ?_) rfl (by kernel_rfl) (by kernel_rfl) (by kernel_rfl) (fun _ _ _ h => h) (Or.inl ⟨by kernel_rfl, ?_⟩) hHeld ?_
                rotate_left
                focus (intro W hS; have c0_0 := (hS.1).at_ (j := 0) rfl; have c0_1 := (hS.1).at_ (j := 1) rfl; have c0_2 := (hS.1).at_ (j := 2) rfl; have c0_3 := (hS.1).at_ (j := 3) rfl; have c0_4 := (hS.1).at_ (j := 4) rfl; clear hS; first | (go_simp; done) | (go_simp; with_reducible rfl))
                try simp only [Act.put, List.setIfInBounds_toArray, List.set_cons_zero, List.set_cons_succ]
                refine wpAnyH_ready (rs := [3, 5]) (by kernel_rfl) (by simp) ?_
                refine AllReadyH.cons (o := ⟨some 64, _, _, _, _, _⟩) rfl (fun K hK => ?_) ?_
                · skip
                  go_simp
                  refine Calls.mono (l5_base w3.heap.size (l.take n) _ n n 0 w.heap.size _ hHeld.2.size (by omega) (HT3.out.new hHeld.2)) ?_
                  rintro e x1 ⟨vK, rfl, GK, hb1⟩
                  refine hK.out _ _ ⟨hHeld.1.new hb1, below_trans hHeld.2 hb1 (Nat.le_refl _)⟩ (fun hHeld' => ?_)
                  clear hK K hHeld hb1
                  have hHeld := hHeld'
                  clear hHeld'
                  try simp only [Act.put, List.setIfInBounds_toArray, List.set_cons_zero, List.set_cons_succ]
                  refine wpAnyH_ready (rs := [5]) (by kernel_rfl) (by simp) ?_
                  refine AllReadyH.cons (o := ⟨some 66, _, _, _, _, _⟩) rfl (fun K hK => ?_) AllReadyH.nil
                  go_simp
                  have Gb5 := box_new (x1) 54 #[.int .i64 e.f1, .int .i64 e.f2, .int .i64 e.f3, .int .i64 e.f4, .int .i64 e.f5]
                  have hb1 := (Below.refl (x1).heap.size (x1)).alloc (Nat.le_refl _) (.cells #[.int .i64 e.f1, .int .i64 e.f2, .int .i64 e.f3, .int .i64 e.f4, .int .i64 e.f5] 54)
                  have Lb5 : w3.heap.size ≤ (x1).heap.size := by have := (hHeld.1).lt; have := (hHeld.2).size; omega
                  have M0b5 : wy.heap.size < (x1).heap.size := (hHeld.1).lt
                  replace GK := own_newer GK hb1
                  generalize (x1).alloc (.cells #[.int .i64 e.f1, .int .i64 e.f2, .int .i64 e.f3, .int .i64 e.f4, .int .i64 e.f5] 54) = x2 at hb1 Gb5 GK ⊢
                  generalize hg : (x1).heap.size = gb5 at Gb5 Lb5 M0b5 ⊢
                  clear hg
                  refine hK.out _ _ ⟨hHeld.1.new hb1, below_trans hHeld.2 hb1 (Nat.le_refl _)⟩ (fun hHeld' => ?_)
                  clear hK K hHeld hb1
                  have hHeld := hHeld'
                  clear hHeld'
                  try simp only [Act.put, List.setIfInBounds_toArray, List.set_cons_zero, List.set_cons_succ]
                  refine wpAnyH_ready (rs := [6]) (by kernel_rfl) (by simp) ?_
                  refine AllReadyH.cons (o := ⟨some 67, _, _, _, _, _⟩) rfl (fun K hK => ?_) AllReadyH.nil
                  refine step_appo rfl _ _ _ (by rfl) w3.heap.size 54 (.agg #[.int .i64 0, .int .i64 0, .int .i64 0, .int .i64 0, .int .i64 0]) 5 40 Try.underlying25 icNode rfl (by decide) vK (by rfl) (n) ((cNode (l.take n))) GK gb5 (gb5 + 1) (some ⟨gb5, 0, none⟩) 1 1 (#[.int .i64 e.f1, .int .i64 e.f2, .int .i64 e.f3, .int .i64 e.f4, .int .i64 e.f5] : Array Value).toList (by rfl) (rd_box5 Gb5 rfl) (one_node e) (by unfold maxLen; omega) (by omega) (by have := (hHeld.2).size; omega) ?_
                  intro Vp2 x3 hO hb0 hgr
                  have hsz0 := hb0.size
                  clear Gb5
                  have OWp2 := hO
                  have hb1 := hb0.mono (show w3.heap.size ≤ w3.heap.size by omega)
                  refine hK.out _ _ ⟨(by have := (hHeld.1).lt; exact hHeld.1.chg (chg_of_below hb0) (by omega)), (hHeld.2).trans hb1⟩ (fun hHeld' => ?_)
                  clear hK K hHeld hb1 hb0 hgr hO
                  have hHeld := hHeld'
                  clear hHeld'
                  try simp only [Act.put, List.setIfInBounds_toArray, List.set_cons_zero, List.set_cons_succ]
                  refine wpAnyH_ready (rs := [10]) (by kernel_rfl) (by simp) ?_
                  refine AllReadyH.cons (o := ⟨some 71, _, _, _, _, _⟩) rfl (fun K hK => ?_) AllReadyH.nil
                  refine step_appo rfl _ _ _ (by rfl) w3.heap.size 54 (.agg #[.int .i64 0, .int .i64 0, .int .i64 0, .int .i64 0, .int .i64 0]) 5 40 Try.underlying25 icNode rfl (by decide) Vp2 (by rfl) ((n + 1)) ((cNode (l.take n) ++ (#[.int .i64 e.f1, .int .i64 e.f2, .int .i64 e.f3, .int .i64 e.f4, .int .i64 e.f5] : Array Value).toList)) OWp2 0 0 _ 0 _ [] (by rfl) (Rd.empty) (fun u hu => by cases hu) (by unfold maxLen; omega) (by omega) (by have := (hHeld.2).size; omega) ?_
                  intro Vp3 x4 hO hb0 hgr
                  have hsz0 := hb0.size
                  have OWp3 := hO
                  have hb1 := hb0.mono (show w3.heap.size ≤ w3.heap.size by omega)
                  refine hK.out _ _ ⟨(by have := (hHeld.1).lt; exact hHeld.1.chg (chg_of_below hb0) (by omega)), (hHeld.2).trans hb1⟩ (fun hHeld' => ?_)
                  clear hK K hHeld hb1 hb0 hgr hO
                  have hHeld := hHeld'
                  clear hHeld'
                  try simp only [Act.put, List.setIfInBounds_toArray, List.set_cons_zero, List.set_cons_succ]
                  refine wpAnyH_take (i := 11) (oi := ⟨some 4, _, _, _, _, _⟩) (v := ?_) rfl (by kernel_rfl) (by kernel_rfl) (by kernel_rfl) (fun _ _ _ h => h) (Or.inl ⟨by kernel_rfl, ?_⟩) hHeld ?_
                  rotate_left
                  focus (intro W hS; have c0_0 := (hS.1).at_ (j := 0) rfl; have c0_1 := (hS.1).at_ (j := 1) rfl; have c0_2 := (hS.1).at_ (j := 2) rfl; have c0_3 := (hS.1).at_ (j := 3) rfl; have c0_4 := (hS.1).at_ (j := 4) rfl; clear hS; first | (go_simp; done) | (go_simp; with_reducible rfl))
                  try simp only [Act.put, List.setIfInBounds_toArray, List.set_cons_zero, List.set_cons_succ]
                  refine wpAnyH_take (i := 12) (oi := ⟨some 5, _, _, _, _, _⟩) (v := ?_) rfl (by kernel_rfl) (by kernel_rfl) (by kernel_rfl) (fun _ _ _ h => h) (Or.inl ⟨by kernel_rfl, ?_⟩) hHeld ?_
                  rotate_left
                  focus (intro W hS; have c0_0 := (hS.1).at_ (j := 0) rfl; have c0_1 := (hS.1).at_ (j := 1) rfl; have c0_2 := (hS.1).at_ (j := 2) rfl; have c0_3 := (hS.1).at_ (j := 3) rfl; have c0_4 := (hS.1).at_ (j := 4) rfl; clear hS; first | (go_simp; done) | (go_simp; with_reducible rfl))
                  try simp only [Act.put, List.setIfInBounds_toArray, List.set_cons_zero, List.set_cons_succ]
                  refine wpAnyH_done (by kernel_rfl) ?_ _
                  go_wp2_with fail
                  go_ret2
                  have hO := OWp3
                  have e2 : cNode (l.take n) ++ (#[.int .i64 e.f1, .int .i64 e.f2, .int .i64 e.f3, .int .i64 e.f4, .int .i64 e.f5] : Array Value).toList ++ [] = cNode (insAt l e) := by rw [HI.out]; rw [List.drop_eq_nil_of_le (by rw [HL.out]; omega)]; simp [cNode, TNode.cells, nAdd, List.flatMap_append]
                  rw [e2] at hO
                  rw [HE.out]
                  exact makesq_of_own HBx.out.size hO (by show _ = (insAt l e).length; rw [ins_len, HL.out]; try omega) (HBx.out.trans (hHeld.2.mono HBx.out.size))
                refine AllReadyH.cons (o := ⟨some 66, _, _, _, _, _⟩) rfl (fun K hK => ?_) ?_
                · skip
                  go_simp
                  have Gb5 := box_new (x0) 54 #[.int .i64 e.f1, .int .i64 e.f2, .int .i64 e.f3, .int .i64 e.f4, .int .i64 e.f5]
                  have hb1 := (Below.refl (x0).heap.size (x0)).alloc (Nat.le_refl _) (.cells #[.int .i64 e.f1, .int .i64 e.f2, .int .i64 e.f3, .int .i64 e.f4, .int .i64 e.f5] 54)
                  have Lb5 : w3.heap.size ≤ (x0).heap.size := by have := (hHeld.1).lt; have := (hHeld.2).size; omega
                  have M0b5 : wy.heap.size < (x0).heap.size := (hHeld.1).lt
                  generalize (x0).alloc (.cells #[.int .i64 e.f1, .int .i64 e.f2, .int .i64 e.f3, .int .i64 e.f4, .int .i64 e.f5] 54) = x1 at hb1 Gb5  ⊢
                  generalize hg : (x0).heap.size = gb5 at Gb5 Lb5 M0b5 ⊢
                  clear hg
                  refine hK.out _ _ ⟨hHeld.1.new hb1, below_trans hHeld.2 hb1 (Nat.le_refl _)⟩ (fun hHeld' => ?_)
                  clear hK K hHeld hb1
                  have hHeld := hHeld'
                  clear hHeld'
                  try simp only [Act.put, List.setIfInBounds_toArray, List.set_cons_zero, List.set_cons_succ]
                  refine wpAnyH_ready (rs := [3]) (by kernel_rfl) (by simp) ?_
                  refine AllReadyH.cons (o := ⟨some 64, _, _, _, _, _⟩) rfl (fun K hK => ?_) AllReadyH.nil
                  go_simp
                  refine Calls.mono (l5_base w3.heap.size (l.take n) _ n n 0 w.heap.size _ hHeld.2.size (by omega) (HT3.out.new hHeld.2)) ?_
                  rintro e x2 ⟨vK, rfl, GK, hb1⟩
                  replace Gb5 := Gb5.new hb1
                  refine hK.out _ _ ⟨hHeld.1.new hb1, below_trans hHeld.2 hb1 (Nat.le_refl _)⟩ (fun hHeld' => ?_)
                  clear hK K hHeld hb1
                  have hHeld := hHeld'
                  clear hHeld'
                  try simp only [Act.put, List.setIfInBounds_toArray, List.set_cons_zero, List.set_cons_succ]
                  refine wpAnyH_ready (rs := [6]) (by kernel_rfl) (by simp) ?_
                  refine AllReadyH.cons (o := ⟨some 67, _, _, _, _, _⟩) rfl (fun K hK => ?_) AllReadyH.nil
                  refine step_appo rfl _ _ _ (by rfl) w3.heap.size 54 (.agg #[.int .i64 0, .int .i64 0, .int .i64 0, .int .i64 0, .int .i64 0]) 5 40 Try.underlying25 icNode rfl (by decide) vK (by rfl) (n) ((cNode (l.take n))) GK gb5 (gb5 + 1) (some ⟨gb5, 0, none⟩) 1 1 (#[.int .i64 e.f1, .int .i64 e.f2, .int .i64 e.f3, .int .i64 e.f4, .int .i64 e.f5] : Array Value).toList (by rfl) (rd_box5 Gb5 rfl) (one_node e) (by unfold maxLen; omega) (by omega) (by have := (hHeld.2).size; omega) ?_
                  intro Vp2 x3 hO hb0 hgr
                  have hsz0 := hb0.size
                  clear Gb5
                  have OWp2 := hO
                  have hb1 := hb0.mono (show w3.heap.size ≤ w3.heap.size by omega)
                  refine hK.out _ _ ⟨(by have := (hHeld.1).lt; exact hHeld.1.chg (chg_of_below hb0) (by omega)), (hHeld.2).trans hb1⟩ (fun hHeld' => ?_)
                  clear hK K hHeld hb1 hb0 hgr hO
                  have hHeld := hHeld'
                  clear hHeld'
                  try simp only [Act.put, List.setIfInBounds_toArray, List.set_cons_zero, List.set_cons_succ]
                  refine wpAnyH_ready (rs := [10]) (by kernel_rfl) (by simp) ?_
                  refine AllReadyH.cons (o := ⟨some 71, _, _, _, _, _⟩) rfl (fun K hK => ?_) AllReadyH.nil
                  refine step_appo rfl _ _ _ (by rfl) w3.heap.size 54 (.agg #[.int .i64 0, .int .i64 0, .int .i64 0, .int .i64 0, .int .i64 0]) 5 40 Try.underlying25 icNode rfl (by decide) Vp2 (by rfl) ((n + 1)) ((cNode (l.take n) ++ (#[.int .i64 e.f1, .int .i64 e.f2, .int .i64 e.f3, .int .i64 e.f4, .int .i64 e.f5] : Array Value).toList)) OWp2 0 0 _ 0 _ [] (by rfl) (Rd.empty) (fun u hu => by cases hu) (by unfold maxLen; omega) (by omega) (by have := (hHeld.2).size; omega) ?_
                  intro Vp3 x4 hO hb0 hgr
                  have hsz0 := hb0.size
                  have OWp3 := hO
                  have hb1 := hb0.mono (show w3.heap.size ≤ w3.heap.size by omega)
                  refine hK.out _ _ ⟨(by have := (hHeld.1).lt; exact hHeld.1.chg (chg_of_below hb0) (by omega)), (hHeld.2).trans hb1⟩ (fun hHeld' => ?_)
                  clear hK K hHeld hb1 hb0 hgr hO
                  have hHeld := hHeld'
                  clear hHeld'
                  try simp only [Act.put, List.setIfInBounds_toArray, List.set_cons_zero, List.set_cons_succ]
                  refine wpAnyH_take (i := 11) (oi := ⟨some 4, _, _, _, _, _⟩) (v := ?_) rfl (by kernel_rfl) (by kernel_rfl) (by kernel_rfl) (fun _ _ _ h => h) (Or.inl ⟨by kernel_rfl, ?_⟩) hHeld ?_
                  rotate_left
                  focus (intro W hS; have c0_0 := (hS.1).at_ (j := 0) rfl; have c0_1 := (hS.1).at_ (j := 1) rfl; have c0_2 := (hS.1).at_ (j := 2) rfl; have c0_3 := (hS.1).at_ (j := 3) rfl; have c0_4 := (hS.1).at_ (j := 4) rfl; clear hS; first | (go_simp; done) | (go_simp; with_reducible rfl))
                  try simp only [Act.put, List.setIfInBounds_toArray, List.set_cons_zero, List.set_cons_succ]
                  refine wpAnyH_take (i := 12) (oi := ⟨some 5, _, _, _, _, _⟩) (v := ?_) rfl (by kernel_rfl) (by kernel_rfl) (by kernel_rfl) (fun _ _ _ h => h) (Or.inl ⟨by kernel_rfl, ?_⟩) hHeld ?_
                  rotate_left
                  focus (intro W hS; have c0_0 := (hS.1).at_ (j := 0) rfl; have c0_1 := (hS.1).at_ (j := 1) rfl; have c0_2 := (hS.1).at_ (j := 2) rfl; have c0_3 := (hS.1).at_ (j := 3) rfl; have c0_4 := (hS.1).at_ (j := 4) rfl; clear hS; first | (go_simp; done) | (go_simp; with_reducible rfl))
                  try simp only [Act.put, List.setIfInBounds_toArray, List.set_cons_zero, List.set_cons_succ]
                  refine wpAnyH_done (by kernel_rfl) ?_ _
                  go_wp2_with fail
                  go_ret2
                  have hO := OWp3
                  have e2 : cNode (l.take n) ++ (#[.int .i64 e.f1, .int .i64 e.f2, .int .i64 e.f3, .int .i64 e.f4, .int .i64 e.f5] : Array Value).toList ++ [] = cNode (insAt l e) := by rw [HI.out]; rw [List.drop_eq_nil_of_le (by rw [HL.out]; omega)]; simp [cNode, TNode.cells, nAdd, List.flatMap_append]
                  rw [e2] at hO
                  rw [HE.out]
                  exact makesq_of_own HBx.out.size hO (by show _ = (insAt l e).length; rw [ins_len, HL.out]; try omega) (HBx.out.trans (hHeld.2.mono HBx.out.size))
                exact AllReadyH.nil
              · skip
                go_wp2_with fail
                go_quiet (fail)
                have KBd := Lib.hid (show BoxAt (World.drewN wr nq) _ _ _ from KB.out)
                have HBd := Lib.hid (below_dN HB.out nq)
                clear k0 k1 k2 k3 k4 k5 hkl KB HB
                generalize World.drewN wr nq = wy at KBd HBd ⊢
                have KB := KBd
                have HB := HBd
                clear KBd HBd
                have k0 := KB.out.at_ (j := 0) rfl
                have k1 := KB.out.at_ (j := 1) rfl
                have k2 := KB.out.at_ (j := 2) rfl
                have k3 := KB.out.at_ (j := 3) rfl
                have k4 := KB.out.at_ (j := 4) rfl
                have k5 := KB.out.at_ (j := 5) rfl
                have hkl := KB.out.lt
                have KZ := box_new wy 54 #[.int .i64 0, .int .i64 0, .int .i64 0, .int .i64 0, .int .i64 0]
                have KX := Lib.hid (box_row (cs := #[.int .i64 e.f1, .int .i64 e.f2, .int .i64 e.f3, .int .i64 e.f4, .int .i64 e.f5]) KZ)
                have HBx := Lib.hid (below_setRow (HB.out.alloc HB.out.size (.cells #[.int .i64 0, .int .i64 0, .int .i64 0, .int .i64 0, .int .i64 0] 54)) HB.out.size #[.int .i64 e.f1, .int .i64 e.f2, .int .i64 e.f3, .int .i64 e.f4, .int .i64 e.f5])
                have HKZ := Lib.hid KZ
                have HS := HB.out.size
                clear KZ
                go_wp2_with (refine wpList_store_row rfl 54 _ _ rfl wy.heap.size #[.int .i64 e.f1, .int .i64 e.f2, .int .i64 e.f3, .int .i64 e.f4, .int .i64 e.f5] rfl rfl 54 _ HKZ.out (by kernel_rfl) (by kernel_rfl) (by kernel_rfl) ?_; generalize hW3 : World.setRow (wy.alloc (.cells #[.int .i64 0, .int .i64 0, .int .i64 0, .int .i64 0, .int .i64 0] 54)) wy.heap.size #[.int .i64 e.f1, .int .i64 e.f2, .int .i64 e.f3, .int .i64 e.f4, .int .i64 e.f5] = w3 at KX HBx ⊢)
                have HT3 := Lib.hid (rdN_take (HR0.out.below HBx.out (Nat.le_refl _)) (show n ≤ n by omega))
                have hx3 := KX.out.lt
                clear hW3 HKZ
                refine wp_region_held_drew (S := fun w' => BoxAt w' wy.heap.size 54 #[.int .i64 e.f1, .int .i64 e.f2, .int .i64 e.f3, .int .i64 e.f4, .int .i64 e.f5] ∧ Below w3.heap.size w3 w') (by kernel_rfl) ?_ (fun hHeld => ?_)
                · exact ⟨KX.out.drw, (Below.refl _ _).drew⟩
                generalize (World.drew _) = x0 at hHeld ⊢
                refine wpAnyH_take (i := 0) (oi := ⟨some 61, _, _, _, _, _⟩) (v := ?_) rfl (by kernel_rfl) (by kernel_rfl) (by kernel_rfl) (fun _ _ _ h => h) (Or.inl ⟨by kernel_rfl, ?_⟩) hHeld ?_
                rotate_left
                focus (intro W hS; have c0_0 := (hS.1).at_ (j := 0) rfl; have c0_1 := (hS.1).at_ (j := 1) rfl; have c0_2 := (hS.1).at_ (j := 2) rfl; have c0_3 := (hS.1).at_ (j := 3) rfl; have c0_4 := (hS.1).at_ (j := 4) rfl; clear hS; first | (go_simp; done) | (go_simp; with_reducible rfl))
                try simp only [Act.put, List.setIfInBounds_toArray, List.set_cons_zero, List.set_cons_succ]
                refine wpAnyH_take (i := 1) (oi := ⟨some 62, _, _, _, _, _⟩) (v := ?_) rfl (by kernel_rfl) (by kernel_rfl) (by kernel_rfl) (fun _ _ _ h => h) (Or.inl ⟨by kernel_rfl, ?_⟩) hHeld ?_
                rotate_left
                focus (intro W hS; have c0_0 := (hS.1).at_ (j := 0) rfl; have c0_1 := (hS.1).at_ (j := 1) rfl; have c0_2 := (hS.1).at_ (j := 2) rfl; have c0_3 := (hS.1).at_ (j := 3) rfl; have c0_4 := (hS.1).at_ (j := 4) rfl; clear hS; first | (go_simp; done) | (go_simp; with_reducible rfl))
                try simp only [Act.put, List.setIfInBounds_toArray, List.set_cons_zero, List.set_cons_succ]
                refine wpAnyH_take (i := 2) (oi := ⟨some 63, _, _, _, _, _⟩) (v := ?_) rfl (by kernel_rfl) (by kernel_rfl) (by kernel_rfl) (fun _ _ _ h => h) (Or.inl ⟨by kernel_rfl, ?_⟩) hHeld ?_
                rotate_left
                focus (intro W hS; have c0_0 := (hS.1).at_ (j := 0) rfl; have c0_1 := (hS.1).at_ (j := 1) rfl; have c0_2 := (hS.1).at_ (j := 2) rfl; have c0_3 := (hS.1).at_ (j := 3) rfl; have c0_4 := (hS.1).at_ (j := 4) rfl; clear hS; first | (go_simp; done) | (go_simp; with_reducible rfl))
                try simp only [Act.put, List.setIfInBounds_toArray, List.set_cons_zero, List.set_cons_succ]
                refine wpAnyH_take (i := 4) (oi := ⟨some 65, _, _, _, _, _⟩) (v := ?_) rfl (by kernel_rfl) (by kernel_rfl) (by kernel_rfl) (fun _ _ _ h => h) (Or.inl ⟨by kernel_rfl, ?_⟩) hHeld ?_
                rotate_left
                focus (intro W hS; have c0_0 := (hS.1).at_ (j := 0) rfl; have c0_1 := (hS.1).at_ (j := 1) rfl; have c0_2 := (hS.1).at_ (j := 2) rfl; have c0_3 := (hS.1).at_ (j := 3) rfl; have c0_4 := (hS.1).at_ (j := 4) rfl; clear hS; first | (go_simp; done) | (go_simp; with_reducible rfl))
                try simp only [Act.put, List.setIfInBounds_toArray, List.set_cons_zero, List.set_cons_succ]
                refine wpAnyH_take (i := 7) (oi := ⟨some 68, _, _, _, _, _⟩) (v := ?_) rfl (by kernel_rfl) (by kernel_rfl) (by kernel_rfl) (fun _ _ _ h => h) (Or.inl ⟨by kernel_rfl, ?_⟩) hHeld ?_
                rotate_left
                focus (intro W hS; have c0_0 := (hS.1).at_ (j := 0) rfl; have c0_1 := (hS.1).at_ (j := 1) rfl; have c0_2 := (hS.1).at_ (j := 2) rfl; have c0_3 := (hS.1).at_ (j := 3) rfl; have c0_4 := (hS.1).at_ (j := 4) rfl; clear hS; first | (go_simp; done) | (go_simp; with_reducible rfl))
                try simp only [Act.put, List.setIfInBounds_toArray, List.set_cons_zero, List.set_cons_succ]
                refine wpAnyH_take (i := 8) (oi := ⟨some 69, _, _, _, _, _⟩) (v := ?_) rfl (by kernel_rfl) (by kernel_rfl) (by kernel_rfl) (fun _ _ _ h => h) (Or.inl ⟨by kernel_rfl, ?_⟩) hHeld ?_
                rotate_left
                focus (intro W hS; have c0_0 := (hS.1).at_ (j := 0) rfl; have c0_1 := (hS.1).at_ (j := 1) rfl; have c0_2 := (hS.1).at_ (j := 2) rfl; have c0_3 := (hS.1).at_ (j := 3) rfl; have c0_4 := (hS.1).at_ (j := 4) rfl; clear hS; first | (go_simp; done) | (go_simp; with_reducible rfl))
                try simp only [Act.put, List.setIfInBounds_toArray, List.set_cons_zero, List.set_cons_succ]
                refine wpAnyH_take (i := 9) (oi := ⟨some 70, _, _, _, _, _⟩) (v := ?_) rfl (by kernel_rfl) (by kernel_rfl) (by kernel_rfl) (fun _ _ _ h => h) (Or.inl ⟨by kernel_rfl, ?_⟩) hHeld ?_
                rotate_left
                focus (intro W hS; have c0_0 := (hS.1).at_ (j := 0) rfl; have c0_1 := (hS.1).at_ (j := 1) rfl; have c0_2 := (hS.1).at_ (j := 2) rfl; have c0_3 := (hS.1).at_ (j := 3) rfl; have c0_4 := (hS.1).at_ (j := 4) rfl; clear hS; first | (go_simp; done) | (go_simp; with_reducible rfl))
                try simp only [Act.put, List.setIfInBounds_toArray, List.set_cons_zero, List.set_cons_succ]
                refine wpAnyH_ready (rs := [3, 5]) (by kernel_rfl) (by simp) ?_
                refine AllReadyH.cons (o := ⟨some 64, _, _, _, _, _⟩) rfl (fun K hK => ?_) ?_
                · skip
                  go_simp
                  refine Calls.mono (l5_base w3.heap.size (l.take n) _ n c 0 w.heap.size _ hHeld.2.size (by omega) (HT3.out.new hHeld.2)) ?_
                  rintro e x1 ⟨vK, rfl, GK, hb1⟩
                  refine hK.out _ _ ⟨hHeld.1.new hb1, below_trans hHeld.2 hb1 (Nat.le_refl _)⟩ (fun hHeld' => ?_)
                  clear hK K hHeld hb1
                  have hHeld := hHeld'
                  clear hHeld'
                  try simp only [Act.put, List.setIfInBounds_toArray, List.set_cons_zero, List.set_cons_succ]
                  refine wpAnyH_ready (rs := [5]) (by kernel_rfl) (by simp) ?_
                  refine AllReadyH.cons (o := ⟨some 66, _, _, _, _, _⟩) rfl (fun K hK => ?_) AllReadyH.nil
                  go_simp
                  have Gb5 := box_new (x1) 54 #[.int .i64 e.f1, .int .i64 e.f2, .int .i64 e.f3, .int .i64 e.f4, .int .i64 e.f5]
                  have hb1 := (Below.refl (x1).heap.size (x1)).alloc (Nat.le_refl _) (.cells #[.int .i64 e.f1, .int .i64 e.f2, .int .i64 e.f3, .int .i64 e.f4, .int .i64 e.f5] 54)
                  have Lb5 : w3.heap.size ≤ (x1).heap.size := by have := (hHeld.1).lt; have := (hHeld.2).size; omega
                  have M0b5 : wy.heap.size < (x1).heap.size := (hHeld.1).lt
                  replace GK := own_newer GK hb1
                  generalize (x1).alloc (.cells #[.int .i64 e.f1, .int .i64 e.f2, .int .i64 e.f3, .int .i64 e.f4, .int .i64 e.f5] 54) = x2 at hb1 Gb5 GK ⊢
                  generalize hg : (x1).heap.size = gb5 at Gb5 Lb5 M0b5 ⊢
                  clear hg
                  refine hK.out _ _ ⟨hHeld.1.new hb1, below_trans hHeld.2 hb1 (Nat.le_refl _)⟩ (fun hHeld' => ?_)
                  clear hK K hHeld hb1
                  have hHeld := hHeld'
                  clear hHeld'
                  try simp only [Act.put, List.setIfInBounds_toArray, List.set_cons_zero, List.set_cons_succ]
                  refine wpAnyH_ready (rs := [6]) (by kernel_rfl) (by simp) ?_
                  refine AllReadyH.cons (o := ⟨some 67, _, _, _, _, _⟩) rfl (fun K hK => ?_) AllReadyH.nil
                  refine step_appo rfl _ _ _ (by rfl) w3.heap.size 54 (.agg #[.int .i64 0, .int .i64 0, .int .i64 0, .int .i64 0, .int .i64 0]) 5 40 Try.underlying25 icNode rfl (by decide) vK (by rfl) (n) ((cNode (l.take n))) GK gb5 (gb5 + 1) (some ⟨gb5, 0, none⟩) 1 1 (#[.int .i64 e.f1, .int .i64 e.f2, .int .i64 e.f3, .int .i64 e.f4, .int .i64 e.f5] : Array Value).toList (by rfl) (rd_box5 Gb5 rfl) (one_node e) (by unfold maxLen; omega) (by omega) (by have := (hHeld.2).size; omega) ?_
                  intro Vp2 x3 hO hb0 hgr
                  have hsz0 := hb0.size
                  clear Gb5
                  have OWp2 := hO
                  have hb1 := hb0.mono (show w3.heap.size ≤ w3.heap.size by omega)
                  refine hK.out _ _ ⟨(by have := (hHeld.1).lt; exact hHeld.1.chg (chg_of_below hb0) (by omega)), (hHeld.2).trans hb1⟩ (fun hHeld' => ?_)
                  clear hK K hHeld hb1 hb0 hgr hO
                  have hHeld := hHeld'
                  clear hHeld'
                  try simp only [Act.put, List.setIfInBounds_toArray, List.set_cons_zero, List.set_cons_succ]
                  refine wpAnyH_ready (rs := [10]) (by kernel_rfl) (by simp) ?_
                  refine AllReadyH.cons (o := ⟨some 71, _, _, _, _, _⟩) rfl (fun K hK => ?_) AllReadyH.nil
                  refine step_appo rfl _ _ _ (by rfl) w3.heap.size 54 (.agg #[.int .i64 0, .int .i64 0, .int .i64 0, .int .i64 0, .int .i64 0]) 5 40 Try.underlying25 icNode rfl (by decide) Vp2 (by rfl) ((n + 1)) ((cNode (l.take n) ++ (#[.int .i64 e.f1, .int .i64 e.f2, .int .i64 e.f3, .int .i64 e.f4, .int .i64 e.f5] : Array Value).toList)) OWp2 0 0 _ 0 _ [] (by rfl) (Rd.empty) (fun u hu => by cases hu) (by unfold maxLen; omega) (by omega) (by have := (hHeld.2).size; omega) ?_
                  intro Vp3 x4 hO hb0 hgr
                  have hsz0 := hb0.size
                  have OWp3 := hO
                  have hb1 := hb0.mono (show w3.heap.size ≤ w3.heap.size by omega)
                  refine hK.out _ _ ⟨(by have := (hHeld.1).lt; exact hHeld.1.chg (chg_of_below hb0) (by omega)), (hHeld.2).trans hb1⟩ (fun hHeld' => ?_)
                  clear hK K hHeld hb1 hb0 hgr hO
                  have hHeld := hHeld'
                  clear hHeld'
                  try simp only [Act.put, List.setIfInBounds_toArray, List.set_cons_zero, List.set_cons_succ]
                  refine wpAnyH_take (i := 11) (oi := ⟨some 4, _, _, _, _, _⟩) (v := ?_) rfl (by kernel_rfl) (by kernel_rfl) (by kernel_rfl) (fun _ _ _ h => h) (Or.inl ⟨by kernel_rfl, ?_⟩) hHeld ?_
                  rotate_left
                  focus (intro W hS; have c0_0 := (hS.1).at_ (j := 0) rfl; have c0_1 := (hS.1).at_ (j := 1) rfl; have c0_2 := (hS.1).at_ (j := 2) rfl; have c0_3 := (hS.1).at_ (j := 3) rfl; have c0_4 := (hS.1).at_ (j := 4) rfl; clear hS; first | (go_simp; done) | (go_simp; with_reducible rfl))
                  try simp only [Act.put, List.setIfInBounds_toArray, List.set_cons_zero, List.set_cons_succ]
                  refine wpAnyH_take (i := 12) (oi := ⟨some 5, _, _, _, _, _⟩) (v := ?_) rfl (by kernel_rfl) (by kernel_rfl) (by kernel_rfl) (fun _ _ _ h => h) (Or.inl ⟨by kernel_rfl, ?_⟩) hHeld ?_
                  rotate_left
                  focus (intro W hS; have c0_0 := (hS.1).at_ (j := 0) rfl; have c0_1 := (hS.1).at_ (j := 1) rfl; have c0_2 := (hS.1).at_ (j := 2) rfl; have c0_3 := (hS.1).at_ (j := 3) rfl; have c0_4 := (hS.1).at_ (j := 4) rfl; clear hS; first | (go_simp; done) | (go_simp; with_reducible rfl))
                  try simp only [Act.put, List.setIfInBounds_toArray, List.set_cons_zero, List.set_cons_succ]
                  refine wpAnyH_done (by kernel_rfl) ?_ _
                  go_wp2_with fail
                  go_ret2
                  have hO := OWp3
                  have e2 : cNode (l.take n) ++ (#[.int .i64 e.f1, .int .i64 e.f2, .int .i64 e.f3, .int .i64 e.f4, .int .i64 e.f5] : Array Value).toList ++ [] = cNode (insAt l e) := by rw [HI.out]; rw [List.drop_eq_nil_of_le (by rw [HL.out]; omega)]; simp [cNode, TNode.cells, nAdd, List.flatMap_append]
                  rw [e2] at hO
                  rw [HE.out]
                  exact makesq_of_own HBx.out.size hO (by show _ = (insAt l e).length; rw [ins_len, HL.out]; try omega) (HBx.out.trans (hHeld.2.mono HBx.out.size))
                refine AllReadyH.cons (o := ⟨some 66, _, _, _, _, _⟩) rfl (fun K hK => ?_) ?_
                · skip
                  go_simp
                  have Gb5 := box_new (x0) 54 #[.int .i64 e.f1, .int .i64 e.f2, .int .i64 e.f3, .int .i64 e.f4, .int .i64 e.f5]
                  have hb1 := (Below.refl (x0).heap.size (x0)).alloc (Nat.le_refl _) (.cells #[.int .i64 e.f1, .int .i64 e.f2, .int .i64 e.f3, .int .i64 e.f4, .int .i64 e.f5] 54)
                  have Lb5 : w3.heap.size ≤ (x0).heap.size := by have := (hHeld.1).lt; have := (hHeld.2).size; omega
                  have M0b5 : wy.heap.size < (x0).heap.size := (hHeld.1).lt
                  generalize (x0).alloc (.cells #[.int .i64 e.f1, .int .i64 e.f2, .int .i64 e.f3, .int .i64 e.f4, .int .i64 e.f5] 54) = x1 at hb1 Gb5  ⊢
                  generalize hg : (x0).heap.size = gb5 at Gb5 Lb5 M0b5 ⊢
                  clear hg
                  refine hK.out _ _ ⟨hHeld.1.new hb1, below_trans hHeld.2 hb1 (Nat.le_refl _)⟩ (fun hHeld' => ?_)
                  clear hK K hHeld hb1
                  have hHeld := hHeld'
                  clear hHeld'
                  try simp only [Act.put, List.setIfInBounds_toArray, List.set_cons_zero, List.set_cons_succ]
                  refine wpAnyH_ready (rs := [3]) (by kernel_rfl) (by simp) ?_
                  refine AllReadyH.cons (o := ⟨some 64, _, _, _, _, _⟩) rfl (fun K hK => ?_) AllReadyH.nil
                  go_simp
                  refine Calls.mono (l5_base w3.heap.size (l.take n) _ n c 0 w.heap.size _ hHeld.2.size (by omega) (HT3.out.new hHeld.2)) ?_
                  rintro e x2 ⟨vK, rfl, GK, hb1⟩
                  replace Gb5 := Gb5.new hb1
                  refine hK.out _ _ ⟨hHeld.1.new hb1, below_trans hHeld.2 hb1 (Nat.le_refl _)⟩ (fun hHeld' => ?_)
                  clear hK K hHeld hb1
                  have hHeld := hHeld'
                  clear hHeld'
                  try simp only [Act.put, List.setIfInBounds_toArray, List.set_cons_zero, List.set_cons_succ]
                  refine wpAnyH_ready (rs := [6]) (by kernel_rfl) (by simp) ?_
                  refine AllReadyH.cons (o := ⟨some 67, _, _, _, _, _⟩) rfl (fun K hK => ?_) AllReadyH.nil
                  refine step_appo rfl _ _ _ (by rfl) w3.heap.size 54 (.agg #[.int .i64 0, .int .i64 0, .int .i64 0, .int .i64 0, .int .i64 0]) 5 40 Try.underlying25 icNode rfl (by decide) vK (by rfl) (n) ((cNode (l.take n))) GK gb5 (gb5 + 1) (some ⟨gb5, 0, none⟩) 1 1 (#[.int .i64 e.f1, .int .i64 e.f2, .int .i64 e.f3, .int .i64 e.f4, .int .i64 e.f5] : Array Value).toList (by rfl) (rd_box5 Gb5 rfl) (one_node e) (by unfold maxLen; omega) (by omega) (by have := (hHeld.2).size; omega) ?_
                  intro Vp2 x3 hO hb0 hgr
                  have hsz0 := hb0.size
                  clear Gb5
                  have OWp2 := hO
                  have hb1 := hb0.mono (show w3.heap.size ≤ w3.heap.size by omega)
                  refine hK.out _ _ ⟨(by have := (hHeld.1).lt; exact hHeld.1.chg (chg_of_below hb0) (by omega)), (hHeld.2).trans hb1⟩ (fun hHeld' => ?_)
                  clear hK K hHeld hb1 hb0 hgr hO
                  have hHeld := hHeld'
                  clear hHeld'
                  try simp only [Act.put, List.setIfInBounds_toArray, List.set_cons_zero, List.set_cons_succ]
                  refine wpAnyH_ready (rs := [10]) (by kernel_rfl) (by simp) ?_
                  refine AllReadyH.cons (o := ⟨some 71, _, _, _, _, _⟩) rfl (fun K hK => ?_) AllReadyH.nil
                  refine step_appo rfl _ _ _ (by rfl) w3.heap.size 54 (.agg #[.int .i64 0, .int .i64 0, .int .i64 0, .int .i64 0, .int .i64 0]) 5 40 Try.underlying25 icNode rfl (by decide) Vp2 (by rfl) ((n + 1)) ((cNode (l.take n) ++ (#[.int .i64 e.f1, .int .i64 e.f2, .int .i64 e.f3, .int .i64 e.f4, .int .i64 e.f5] : Array Value).toList)) OWp2 0 0 _ 0 _ [] (by rfl) (Rd.empty) (fun u hu => by cases hu) (by unfold maxLen; omega) (by omega) (by have := (hHeld.2).size; omega) ?_
                  intro Vp3 x4 hO hb0 hgr
                  have hsz0 := hb0.size
                  have OWp3 := hO
                  have hb1 := hb0.mono (show w3.heap.size ≤ w3.heap.size by omega)
                  refine hK.out _ _ ⟨(by have := (hHeld.1).lt; exact hHeld.1.chg (chg_of_below hb0) (by omega)), (hHeld.2).trans hb1⟩ (fun hHeld' => ?_)
                  clear hK K hHeld hb1 hb0 hgr hO
                  have hHeld := hHeld'
                  clear hHeld'
                  try simp only [Act.put, List.setIfInBounds_toArray, List.set_cons_zero, List.set_cons_succ]
                  refine wpAnyH_take (i := 11) (oi := ⟨some 4, _, _, _, _, _⟩) (v := ?_) rfl (by kernel_rfl) (by kernel_rfl) (by kernel_rfl) (fun _ _ _ h => h) (Or.inl ⟨by kernel_rfl, ?_⟩) hHeld ?_
                  rotate_left
                  focus (intro W hS; have c0_0 := (hS.1).at_ (j := 0) rfl; have c0_1 := (hS.1).at_ (j := 1) rfl; have c0_2 := (hS.1).at_ (j := 2) rfl; have c0_3 := (hS.1).at_ (j := 3) rfl; have c0_4 := (hS.1).at_ (j := 4) rfl; clear hS; first | (go_simp; done) | (go_simp; with_reducible rfl))
                  try simp only [Act.put, List.setIfInBounds_toArray, List.set_cons_zero, List.set_cons_succ]
                  refine wpAnyH_take (i := 12) (oi := ⟨some 5, _, _, _, _, _⟩) (v := ?_) rfl (by kernel_rfl) (by kernel_rfl) (by kernel_rfl) (fun _ _ _ h => h) (Or.inl ⟨by kernel_rfl, ?_⟩) hHeld ?_
                  rotate_left
                  focus (intro W hS; have c0_0 := (hS.1).at_ (j := 0) rfl; have c0_1 := (hS.1).at_ (j := 1) rfl; have c0_2 := (hS.1).at_ (j := 2) rfl; have c0_3 := (hS.1).at_ (j := 3) rfl; have c0_4 := (hS.1).at_ (j := 4) rfl; clear hS; first | (go_simp; done) | (go_simp; with_reducible rfl))
                  try simp only [Act.put, List.setIfInBounds_toArray, List.set_cons_zero, List.set_cons_succ]
                  refine wpAnyH_done (by kernel_rfl) ?_ _
                  go_wp2_with fail
                  go_ret2
                  have hO := OWp3
                  have e2 : cNode (l.take n) ++ (#[.int .i64 e.f1, .int .i64 e.f2, .int .i64 e.f3, .int .i64 e.f4, .int .i64 e.f5] : Array Value).toList ++ [] = cNode (insAt l e) := by rw [HI.out]; rw [List.drop_eq_nil_of_le (by rw [HL.out]; omega)]; simp [cNode, TNode.cells, nAdd, List.flatMap_append]
                  rw [e2] at hO
                  rw [HE.out]
                  exact makesq_of_own HBx.out.size hO (by show _ = (insAt l e).length; rw [ins_len, HL.out]; try omega) (HBx.out.trans (hHeld.2.mono HBx.out.size))
                exact AllReadyH.nil
end Go.Proofs.Ytomoigbhikihfaa
