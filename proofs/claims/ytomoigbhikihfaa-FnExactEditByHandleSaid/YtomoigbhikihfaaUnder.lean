/- IsUnder, of the program and of the model. -/
import Derived.Test.YtomoigbhikihfaaIsDoc
namespace Go.Proofs.Ytomoigbhikihfaa
open Go Go.ChangeShapes Go.WideShapes Go.ChangeAt Go.RowKit Go.Lib Go.Maps
set_option linter.unusedVariables false
set_option maxRecDepth 100000

/-- The way up from a node, in at most so many steps: does it meet 'top'? -/
def under (l : List TNode) (top : Int) : Nat → Int → Bool
  | 0, _ => false
  | f + 1, id => if id = top then true else if id = 0 then false else match l[(mNodeOf l id).toNat]? with | some x => under l top f x.f1 | none => false
def mUnder (l : List TNode) (id top : Int) : Bool := mIsDoc l && (idx l id).isSome && (idx l top).isSome && under l top (l.length + 1) id
theorem doc_at {l : List TNode} (h : mIsDoc l = true) {k : Nat} {x : TNode} (hx : l[k]? = some x) : fitAt l k x = true := by
  unfold mIsDoc docTo at h
  rw [Bool.and_eq_true, List.all_eq_true] at h
  have hk := h.2 k (List.mem_range.2 (List.getElem?_eq_some_iff.1 hx).1)
  rw [docAt_some hx, Bool.and_eq_true] at hk
  exact hk.1
theorem doc_nonneg {l : List TNode} (h : mIsDoc l = true) : ∀ (k : Nat) (x : TNode), l[k]? = some x → 0 ≤ x.f0 := by
  intro k
  induction k with
  | zero =>
    intro x hx
    have hf := doc_at h hx
    unfold fitAt at hf
    rw [if_pos rfl, Bool.and_eq_true, beq_iff_eq] at hf
    omega
  | succ k ih =>
    intro x hx
    have hf := doc_at h hx
    unfold fitAt at hf
    rw [if_neg (by omega), Bool.and_eq_true] at hf
    have hlt := (List.getElem?_eq_some_iff.1 hx).1
    have hy : l[k]? = some l[k] := List.getElem?_eq_getElem (by omega)
    rw [Nat.add_sub_cancel, hy] at hf
    have h1 := ih _ hy
    have h2 := of_decide_eq_true hf.1
    omega
theorem idx_of_take {l : List TNode} {id : Int} {j : Nat} (h : (idx (l.take j) id).isSome = true) : ∃ p : Nat, idx l id = some (p : Int) ∧ p < j := by
  cases hi : idx l id with
  | none => rw [idx_take_none j hi] at h; cases h
  | some v =>
    obtain ⟨i, x, rfl, hl, _⟩ := idx_lt hi
    refine ⟨i, rfl, ?_⟩
    by_cases hj : j ≤ l.length
    · rw [idx_take_some j hj hi] at h
      have := of_decide_eq_true h
      omega
    · omega
/-- What a round of the way up needs: the node, and where its parent stands. -/
theorem doc_up {l : List TNode} (h : mIsDoc l = true) {id : Int} {j : Nat} (hi : idx l id = some (j : Int)) (h0 : id ≠ 0) : ∃ x, l[j]? = some x ∧ x.f0 = id ∧ 0 < id ∧ ∃ p : Nat, idx l x.f1 = some (p : Int) ∧ p < j := by
  obtain ⟨i, x, hv, hl, hx, hx0⟩ := idx_lt hi
  obtain rfl : j = i := by omega
  have hn := doc_nonneg h _ _ hx
  refine ⟨x, hx, hx0, by omega, ?_⟩
  have hf := doc_at h hx
  unfold fitAt at hf
  by_cases hj : j = 0
  · rw [if_pos hj, Bool.and_eq_true, beq_iff_eq] at hf
    omega
  · rw [if_neg hj, Bool.and_eq_true] at hf
    exact idx_of_take hf.2
theorem mNode_of {l : List TNode} {id : Int} {j : Nat} (h : idx l id = some (j : Int)) : mNodeOf l id = j := by unfold mNodeOf; rw [h]
theorem under_step {l : List TNode} {top id : Int} {f j : Nat} {x : TNode} {R : Bool} (h : under l top (f + 1) id = R) (hi : idx l id = some (j : Int)) (hx : l[j]? = some x) (h1 : id ≠ top) (h0 : id ≠ 0) : under l top f x.f1 = R := by
  unfold under at h
  rw [if_neg h1, if_neg h0, mNode_of hi] at h
  simpa [hx] using h
theorem under_top {l : List TNode} {top id : Int} {f : Nat} {R : Bool} (h : under l top (f + 1) id = R) (h1 : id = top) : R = true := by
  unfold under at h
  rw [if_pos h1] at h
  exact h.symm
theorem under_root {l : List TNode} {top id : Int} {f : Nat} {R : Bool} (h : under l top (f + 1) id = R) (h1 : id ≠ top) (h0 : id = 0) : R = false := by
  unfold under at h
  rw [if_neg h1, if_pos h0] at h
  exact h.symm

section
variable {w : World} {ops : Array Oper} {rest : List Oper} {o : Oper} {a : Act} {Q : Exit → Act → World → Prop}
/-- 'm[k]'. -/
theorem wp_look (hg : o.guard = none) (m x : Operand) (t : TypeId) (hop : o.op = Op.lookup t m x false) (ht : Try.prog.underlying t = some (.map 3 3)) (b n : Nat) (f : Int → Option Int) (hm : a.eval m = .map (some b)) (h : MapAt w b n f)
    (id : Int) (hx : a.eval x = .int .i64 id) (hw : (Lit.int .i64 id).wf = true)
    (hK : wpList Try.prog ops Q rest (a.put o.dst (.int .i64 ((f id).getD 0))) w) : wpList Try.prog ops Q (o :: rest) a w := by
  obtain ⟨D, h1, h2, h3⟩ := h
  refine wpList_lookup_own_int w hg m x t hop 3 3 .i64 keyed_int ht Try.underlying3 (zero_int _) b n D hm h1 (.int .i64 id) (.int .i64 id) hx (keyOf_int_mk Try.underlying3 hw) ?_
  intro c hc _
  rw [(h3 id).2] at hc
  injection hc with hc
  injection hc with _ hc
  rw [← hc]
  exact hK
end
theorem page_has (l : List TNode) (A : Option Addr) (n c B m : Nat) (x y : Int) (g : Nat) (w : World) (hM : MapAt w B m (idx l)) (wx : (Lit.int .i64 x).wf = true) (wy : (Lit.int .i64 y).wf = true)
    (h0 : w.cell? ⟨g, 0, none⟩ = some (.int .i64 x)) (h1 : w.cell? ⟨g, 1, none⟩ = some (.int .i64 y)) :
    Calls Try.prog 69 #[.agg #[.slice A n c, .map (some B)], .slice (some ⟨g, 0, none⟩) 2 2] w (Says (.bool ((idx l x).isSome && (idx l y).isSome)) w) := by
  have HM := Lib.hid hM
  have WX := Lib.hid wx
  have WY := Lib.hid wy
  have hgl : g < w.heap.size := World.block_lt_of_cell? w _ h0
  clear hM wx wy
  go_enter Try.func69, Try.ntmps69
  go_wp2_with fail
  go_loop [11] (fun i => ∃ k : Nat, k ≤ 2 ∧ i = .int .i64 k ∧ (0 < k → (idx l x).isSome = true) ∧ (1 < k → (idx l y).isSome = true)) (fun i => 2 - (intOf i).toNat)
  case atStart => exact ⟨0, by omega, rfl, fun h => absurd h (by omega), fun h => absurd h (by omega)⟩
  case round =>
    obtain ⟨k, hk, rfl, hx, hy⟩ := hrel
    have HX := Lib.hid hx
    have HY := Lib.hid hy
    have HW := Lib.hid ((Below.refl w.heap.size w).alloc (Nat.le_refl _) (.cells #[.slice A n c, .map (some B)] 59))
    have HM2 := Lib.hid (HM.out.alloc_ (.cells #[.slice A n c, .map (some B)] 59))
    clear hx hy
    have hk3 : k = 0 ∨ k = 1 ∨ k = 2 := by omega
    rcases hk3 with rfl | rfl | rfl
    · by_cases e : (idx l x).isSome = true
      · go_wp2_with (at_lookup; refine wp_look_ok rfl _ _ _ rfl Try.underlying57 B m _ rfl HM2.out x rfl WX.out ?_)
        go_round
        case rel => exact ⟨1, by omega, by go_num, fun _ => e, fun h => absurd h (by omega)⟩
        case measure => simp [intOf]
      · have e : (idx l x).isSome = false := by simpa using e
        go_wp2_with (at_lookup; refine wp_look_ok rfl _ _ _ rfl Try.underlying57 B m _ rfl HM2.out x rfl WX.out ?_)
        go_ret
        exact ⟨by rfl, HW.out⟩
    · have ex := HX.out (by omega)
      by_cases e : (idx l y).isSome = true
      · go_wp2_with (at_lookup; refine wp_look_ok rfl _ _ _ rfl Try.underlying57 B m _ rfl HM2.out y rfl WY.out ?_)
        go_round
        case rel => exact ⟨2, by omega, by go_num, fun _ => ex, fun _ => e⟩
        case measure => simp [intOf]
      · have e : (idx l y).isSome = false := by simpa using e
        go_wp2_with (at_lookup; refine wp_look_ok rfl _ _ _ rfl Try.underlying57 B m _ rfl HM2.out y rfl WY.out ?_)
        go_ret
        exact ⟨by rfl, HW.out⟩
    · have ex := HX.out (by omega)
      have ey := HY.out (by omega)
      go_wp2_with fail
      go_ret
      exact ⟨by rfl, HW.out⟩
theorem page_under (l : List TNode) (A : Option Addr) (n c lo hi B m : Nat) (x y : Int) (w : World) (hn : n ≤ 1048576) (hr : Rd w lo hi 5 A n (cNode l)) (hok : Hid (cNodeOk l)) (hM : MapAt w B m (idx l)) (hdoc : mIsDoc l = true) (wx : (Lit.int .i64 x).wf = true) (wy : (Lit.int .i64 y).wf = true) :
    Calls Try.prog 83 #[.agg #[.slice A n c, .map (some B)], .int .i64 x, .int .i64 y] w (Says (.bool (mUnder l x y)) w) := by
  have HM := Lib.hid hM
  have HL := Lib.hid (rd_len TNode.len hr (by decide))
  have HR := Lib.hid hr
  have WX := Lib.hid wx
  have WY := Lib.hid wy
  have HD := Lib.hid hdoc
  clear hr hM wx wy hdoc
  by_cases hh : ((idx l x).isSome && (idx l y).isSome) = true
  · have hxs : (idx l x).isSome = true := by simp only [Bool.and_eq_true] at hh; exact hh.1
    have HE := Lib.hid (show mUnder l x y = under l y (l.length + 1) x by
      unfold mUnder
      rw [HD.out, Bool.true_and, hh, Bool.true_and])
    go_enter Try.func83, Try.ntmps83
    go_wp2_with fail
    refine (page_has l A n c B m x y _ _ ((HM.out.alloc_ _).alloc_ _) WX.out WY.out (by simp) (by simp)).mono ?_
    rintro e w1 ⟨rfl, hb⟩
    have HB := Lib.hid ((((Below.refl w.heap.size w).alloc (Nat.le_refl _) (.cells #[.slice A n c, .map (some B)] 59)).alloc (by simp) (.cells #[.int .i64 x, .int .i64 y] 3)).trans (hb.mono (by simp <;> omega)))
    have HX := Lib.hid (((box_new w 59 #[.slice A n c, .map (some B)]).alloc_ (.cells #[.int .i64 x, .int .i64 y] 3)).new hb)
    clear hb
    rw [hh]
    go_wp2_with fail
    go_loopw [1] (fun v wr => ∃ (id : Int) (j f : Nat), v = .int .i64 id ∧ idx l id = some (j : Int) ∧ j ≤ f ∧ under l y (f + 1) id = mUnder l x y ∧ (Lit.int .i64 id).wf = true ∧ BoxAt wr w.heap.size 59 #[.slice A n c, .map (some B)] ∧ Below w.heap.size w wr) (fun v _ => (mNodeOf l (intOf v)).toNat)
    case atStart =>
      obtain ⟨v, hv⟩ := Option.isSome_iff_exists.1 hxs
      obtain ⟨i, _, rfl, hl, _⟩ := idx_lt hv
      exact ⟨x, i, l.length, rfl, hv, by omega, HE.out.symm, WX.out, HX.out, HB.out⟩
    case round =>
      obtain ⟨id, j, f, rfl, hi, hj, hu, wid, hX, hb⟩ := hrel
      have HB2 := Lib.hid hb
      have HX2 := Lib.hid hX
      have HM2 := Lib.hid (HM.out.new hb)
      have HRw := Lib.hid (HR.out.new hb)
      have HI := Lib.hid hi
      have HU := Lib.hid hu
      have WID := Lib.hid wid
      have p0 := hX.at_ (j := 0) (u := .slice A n c) rfl
      have p1 := hX.at_ (j := 1) (u := .map (some B)) rfl
      clear hi hu wid hX hb
      by_cases e1 : id = y
      · have g1 : (id != y) = false := by simpa using e1
        have g2 : (id == y) = true := by simpa using e1
        have HE2 := Lib.hid (under_top HU.out e1)
        clear e1
        go_wp2_with fail
        go_ret
        exact ⟨by rw [HE2.out]; first | rfl | simp [g2], HB2.out⟩
      · have g1 : (id != y) = true := by simpa using e1
        have g2 : (id == y) = false := by simpa using e1
        by_cases e0 : id = 0
        · have g3 : (id != 0) = false := by simpa using e0
          have HE2 := Lib.hid (under_root HU.out e1 e0)
          clear e1 e0
          go_wp2_with fail
          go_ret
          exact ⟨by rw [HE2.out]; first | rfl | simp [g2], HB2.out⟩
        · have g3 : (id != 0) = true := by simpa using e0
          obtain ⟨q, hq, hq0, hpos, pp, hp, hpj⟩ := doc_up HD.out HI.out e0
          have hjl : j < n := by rw [← HL.out]; exact (List.getElem?_eq_some_iff.1 hq).1
          obtain ⟨b, off, q', rfl, _, _, hz, hc⟩ := rd_elem TNode.len HRw.out HL.out hjl
          obtain rfl : q = q' := Option.some.inj (hq.symm.trans hz)
          have c1 := hc 1 _ rfl
          have gi : (idx l id).getD 0 = (j : Int) := by rw [HI.out]; rfl
          have WQ := Lib.hid (node_wf hok.out hq).2
          have HP := Lib.hid hp
          have HM3 := Lib.hid (mNode_of HI.out)
          have HM4 := Lib.hid (mNode_of hp)
          obtain ⟨f', rfl⟩ : ∃ f', f = f' + 1 := ⟨f - 1, by omega⟩
          have HU2 := Lib.hid (under_step HU.out HI.out hq e1 e0)
          clear hz hc hq hp e1 e0 hq0
          go_wp2_with (at_lookup; refine wp_look rfl _ _ _ rfl Try.underlying57 B m _ rfl HM2.out id rfl WID.out ?_)
          go_roundw
          case rel => exact ⟨q.f1, pp, f', rfl, HP.out, by omega, HU2.out, WQ.out, HX2.out, HB2.out⟩
          case measure => have h3 := HM3.out; have h4 := HM4.out; simp [intOf, h3, h4]; omega
  · have hh : ((idx l x).isSome && (idx l y).isSome) = false := by simpa using hh
    have HE := Lib.hid (show mUnder l x y = false by
      unfold mUnder
      rw [HD.out, Bool.true_and, hh, Bool.false_and])
    go_enter Try.func83, Try.ntmps83
    go_wp2_with fail
    refine (page_has l A n c B m x y _ _ ((HM.out.alloc_ _).alloc_ _) WX.out WY.out (by simp) (by simp)).mono ?_
    rintro e w1 ⟨rfl, hb⟩
    have HB := Lib.hid ((((Below.refl w.heap.size w).alloc (Nat.le_refl _) (.cells #[.slice A n c, .map (some B)] 59)).alloc (by simp) (.cells #[.int .i64 x, .int .i64 y] 3)).trans (hb.mono (by simp <;> omega)))
    clear hb
    rw [hh]
    go_wp2_with fail
    go_ret
    exact ⟨by rw [HE.out]; rfl, HB.out⟩
theorem spec_IsUnder (l0 : List TNode) (A0 : Option Addr) (n0 c0 lo0 hi0 : Nat) (a1 a2 : Int) (w : World) (h0 : n0 ≤ 1048576) (r0 : Rd w lo0 hi0 5 A0 n0 (cNode l0)) (p0 : n0 ≤ c0) (b0 : Hid (cNodeOk l0)) (w1 : (Lit.int .i64 a1).wf = true) (w2 : (Lit.int .i64 a2).wf = true) :
    Calls Try.prog 47 #[.slice A0 n0 c0, .int .i64 a1, .int .i64 a2] w (Says (.bool (mUnder l0 a1 a2)) w) := by
  have HL := Lib.hid (rd_len TNode.len r0 (by decide))
  have HR := Lib.hid r0
  clear r0
  by_cases hd : mIsDoc l0 = true
  · by_cases hx : (idx l0 a1).isSome = true
    · have gx : decide (mNodeOf l0 a1 < 0) = false := by have := mNodeOf_pos hx; simp; omega
      by_cases hy : (idx l0 a2).isSome = true
      · have gy : decide (mNodeOf l0 a2 < 0) = false := by have := mNodeOf_pos hy; simp; omega
        have HE := Lib.hid (show mUnder l0 a1 a2 = under l0 a2 (l0.length + 1) a1 by
          unfold mUnder
          rw [hd, hx, hy]; simp)
        have HD := Lib.hid hd
        go_enter Try.func47, Try.ntmps47
        go_wp2_with fail
        refine (spec_IsDocument' l0 A0 n0 c0 lo0 hi0 _ (by omega) p0 HR.out).mono ?_
        rintro e w3 ⟨rfl, hb⟩
        rw [hd]
        have HR3 := Lib.hid (HR.out.new hb)
        have HB3 := Lib.hid hb
        clear hb
        go_wp2_with fail
        refine (spec_NodeOf' l0 A0 n0 c0 lo0 hi0 a1 _ (by omega) HR3.out).mono ?_
        rintro e w4 ⟨rfl, rfl⟩
        go_wp2_with fail
        refine (spec_NodeOf' l0 A0 n0 c0 lo0 hi0 a2 _ (by omega) HR3.out).mono ?_
        rintro e w4 ⟨rfl, rfl⟩
        go_wp2_with fail
        go_loop [1] (fun v => ∃ (id : Int) (j f : Nat), v = .int .i64 id ∧ idx l0 id = some (j : Int) ∧ j ≤ f ∧ under l0 a2 (f + 1) id = mUnder l0 a1 a2) (fun v => (mNodeOf l0 (intOf v)).toNat)
        case atStart =>
          obtain ⟨v, hv⟩ := Option.isSome_iff_exists.1 hx
          obtain ⟨i, _, rfl, hl, _⟩ := idx_lt hv
          exact ⟨a1, i, l0.length, rfl, hv, by omega, HE.out.symm⟩
        case round =>
          obtain ⟨id, j, f, rfl, hi, hj, hu⟩ := hrel
          have HI := Lib.hid hi
          have HU := Lib.hid hu
          clear hi hu
          by_cases e1 : id = a2
          · have g1 : (id != a2) = false := by simpa using e1
            have g2 : (id == a2) = true := by simpa using e1
            have HE2 := Lib.hid (under_top HU.out e1)
            clear e1
            go_wp2_with fail
            go_ret
            exact ⟨by rw [HE2.out]; first | rfl | simp [g2], HB3.out⟩
          · have g1 : (id != a2) = true := by simpa using e1
            have g2 : (id == a2) = false := by simpa using e1
            by_cases e0 : id = 0
            · have g3 : decide (0 < id) = false := by simp; omega
              have HE2 := Lib.hid (under_root HU.out e1 e0)
              clear e1 e0
              go_wp2_with fail
              go_ret
              exact ⟨by rw [HE2.out]; first | rfl | simp [g2], HB3.out⟩
            · obtain ⟨q, hq, hq0, hpos, pp, hp, hpj⟩ := doc_up HD.out HI.out e0
              have g3 : decide (0 < id) = true := by simp; omega
              have hjl : j < n0 := by rw [← HL.out]; exact (List.getElem?_eq_some_iff.1 hq).1
              obtain ⟨b, off, q', rfl, _, _, hz, hc⟩ := rd_elem TNode.len HR3.out HL.out hjl
              obtain rfl : q = q' := Option.some.inj (hq.symm.trans hz)
              have c1 := hc 1 _ rfl
              have HP := Lib.hid hp
              have HM3 := Lib.hid (mNode_of HI.out)
              have HM4 := Lib.hid (mNode_of hp)
              obtain ⟨f', rfl⟩ : ∃ f', f = f' + 1 := ⟨f - 1, by omega⟩
              have HU2 := Lib.hid (under_step HU.out HI.out hq e1 e0)
              clear hz hc hq hp e1 e0 hq0
              go_wp2_with fail
              refine (spec_NodeOf' l0 _ n0 c0 lo0 hi0 id _ (by omega) HR3.out).mono ?_
              rintro e w4 ⟨rfl, rfl⟩
              rw [HM3.out]
              go_wp2_with fail
              go_round
              case rel => exact ⟨q.f1, pp, f', rfl, HP.out, by omega, HU2.out⟩
              case measure => have h3 := HM3.out; have h4 := HM4.out; simp [intOf, h3, h4]; omega
      · have hy : (idx l0 a2).isSome = false := by simpa using hy
        have gy : decide (mNodeOf l0 a2 < 0) = true := by have := mNodeOf_neg hy; simpa using this
        have HE := Lib.hid (show mUnder l0 a1 a2 = false by
          unfold mUnder
          rw [hd, hx, hy]; simp)
        go_enter Try.func47, Try.ntmps47
        go_wp2_with fail
        refine (spec_IsDocument' l0 A0 n0 c0 lo0 hi0 _ (by omega) p0 HR.out).mono ?_
        rintro e w3 ⟨rfl, hb⟩
        rw [hd]
        have HR3 := Lib.hid (HR.out.new hb)
        have HB3 := Lib.hid hb
        clear hb
        go_wp2_with fail
        refine (spec_NodeOf' l0 A0 n0 c0 lo0 hi0 a1 _ (by omega) HR3.out).mono ?_
        rintro e w4 ⟨rfl, rfl⟩
        go_wp2_with fail
        refine (spec_NodeOf' l0 A0 n0 c0 lo0 hi0 a2 _ (by omega) HR3.out).mono ?_
        rintro e w4 ⟨rfl, rfl⟩
        go_wp2_with fail
        go_ret
        exact ⟨by rw [HE.out]; rfl, HB3.out⟩
    · have hx : (idx l0 a1).isSome = false := by simpa using hx
      have gx : decide (mNodeOf l0 a1 < 0) = true := by have := mNodeOf_neg hx; simpa using this
      have HE := Lib.hid (show mUnder l0 a1 a2 = false by
        unfold mUnder
        rw [hd, hx]; simp)
      go_enter Try.func47, Try.ntmps47
      go_wp2_with fail
      refine (spec_IsDocument' l0 A0 n0 c0 lo0 hi0 _ (by omega) p0 HR.out).mono ?_
      rintro e w3 ⟨rfl, hb⟩
      rw [hd]
      have HR3 := Lib.hid (HR.out.new hb)
      have HB3 := Lib.hid hb
      clear hb
      go_wp2_with fail
      refine (spec_NodeOf' l0 A0 n0 c0 lo0 hi0 a1 _ (by omega) HR3.out).mono ?_
      rintro e w4 ⟨rfl, rfl⟩
      go_wp2_with fail
      go_ret
      exact ⟨by rw [HE.out]; rfl, HB3.out⟩
  · have hd : mIsDoc l0 = false := by simpa using hd
    have HE := Lib.hid (show mUnder l0 a1 a2 = false by
      unfold mUnder
      rw [hd]; simp)
    go_enter Try.func47, Try.ntmps47
    go_wp2_with fail
    refine (spec_IsDocument' l0 A0 n0 c0 lo0 hi0 _ (by omega) p0 HR.out).mono ?_
    rintro e w3 ⟨rfl, hb⟩
    rw [hd]
    go_wp2_with fail
    go_ret
    exact ⟨by rw [HE.out]; rfl, hb⟩
theorem impl_IsUnderC (l0 : List TNode) (A0 : Option Addr) (n0 c0 lo0 hi0 : Nat) (a1 a2 : Int) (w : World) (h0 : n0 ≤ 1048576) (r0 : Rd w lo0 hi0 5 A0 n0 (cNode l0)) (p0 : n0 ≤ c0) (b0 : Hid (cNodeOk l0)) (w1 : (Lit.int .i64 a1).wf = true) (w2 : (Lit.int .i64 a2).wf = true) :
    Calls Try.prog 70 #[.slice A0 n0 c0, .int .i64 a1, .int .i64 a2] w (Says (.bool (mUnder l0 a1 a2)) w) := by
  have HR := Lib.hid r0
  clear r0
  by_cases hd : mIsDoc l0 = true
  · go_enter Try.func70, Try.ntmps70
    go_wp2_with fail
    refine (impl_IsDocument l0 A0 n0 c0 lo0 hi0 _ (by omega) HR.out b0).mono ?_
    rintro e w3 ⟨rfl, hb⟩
    rw [hd]
    have HR3 := Lib.hid (HR.out.new hb)
    have HB3 := Lib.hid hb
    clear hb
    go_wp2_with fail
    refine (newPage_any l0 A0 n0 c0 lo0 hi0 _ (by omega) HR3.out b0).mono ?_
    rintro e w4 ⟨B, rfl, hB, hM, hb⟩
    have HR4 := Lib.hid (HR3.out.new hb)
    have HM := Lib.hid hM
    have HB4 := Lib.hid (below_trans HB3.out hb (Nat.le_refl _))
    clear hM hb
    go_wp2_with fail
    refine (page_under l0 A0 n0 c0 lo0 hi0 B n0 a1 a2 _ h0 HR4.out b0 HM.out hd w1 w2).mono ?_
    rintro e w5 ⟨rfl, hb⟩
    have HB5 := Lib.hid (below_trans HB4.out hb (Nat.le_refl _))
    clear hb
    go_wp2_with fail
    go_ret
    exact ⟨rfl, HB5.out⟩
  · have hd : mIsDoc l0 = false := by simpa using hd
    have HE := Lib.hid (show mUnder l0 a1 a2 = false by
      unfold mUnder
      rw [hd]; simp)
    go_enter Try.func70, Try.ntmps70
    go_wp2_with fail
    refine (impl_IsDocument l0 A0 n0 c0 lo0 hi0 _ (by omega) HR.out b0).mono ?_
    rintro e w3 ⟨rfl, hb⟩
    rw [hd]
    go_wp2_with fail
    go_ret
    exact ⟨by rw [HE.out]; rfl, hb⟩
end Go.Proofs.Ytomoigbhikihfaa
