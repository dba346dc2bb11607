/- PatternText of the program. -/
import Derived.Test.YtlnmgfbfpjfddaaDoorTxt
import Derived.Test.YtlnmgfbfpjfddaaDoorSite
import Derived.Test.YtlnmgfbfpjfddaaDoorReg
import Derived.Deep.RegionHeld3
namespace Go.Proofs.YtlnmgfbfpjfddaaDoor
open Go Go.ChangeShapes Go.WideShapes Go.ChangeAt Go.RowKit Go.Lib
set_option linter.unusedVariables false
set_option linter.unusedSimpArgs false
set_option maxRecDepth 100000
def tOpt (v : Bool) (k : Int) : List UInt8 := if v then itoa k else [42]
def tPat (s : TPattern) : List UInt8 := if mIsPattern s then tOpt (s.f0 != 0) s.f0 ++ [47] ++ tOpt (s.f1 != -1) s.f1 else []
theorem tOpt_in {v : Bool} {k : Int} (h : -9223372036854775808 ≤ k ∧ k ≤ 9223372036854775807) : (tOpt v k).length ≤ 20 := by
  unfold tOpt
  cases v
  · simp
  · exact itoa_in h
theorem boxvar (w : World) (t : TypeId) (zs cs : Array Value) : BoxAt ((w.alloc (.cells zs t)).setRow w.heap.size cs) w.heap.size t cs ∧ Below w.heap.size w ((w.alloc (.cells zs t)).setRow w.heap.size cs) :=
  ⟨box_row (box_new w t zs), below_setRow ((Below.refl _ _).alloc (Nat.le_refl _) _) (Nat.le_refl _) _⟩
theorem impl_optText (v : Bool) (k : Int) (w : World) (hT : Pow10 w) (hk : -9223372036854775808 ≤ k ∧ k ≤ 9223372036854775807) : Calls Tryd.prog 49 #[.agg #[.bool v, .int .i64 k]] w (Says (.string ⟨(tOpt v k).toArray⟩) w) := by
  have HT := Lib.hid hT
  have C0 := Lib.hid (says_impl k hk)
  unfold tOpt
  clear hT
  generalize itoa k = X at C0 ⊢
  cases v with
  | false =>
    go_enter Tryd.func49, Tryd.ntmps49
    go_wp2_with fail
    go_ret
    exact ⟨rfl, (Below.refl _ _).alloc (Nat.le_refl _) _⟩
  | true =>
    go_enter Tryd.func49, Tryd.ntmps49
    go_wp2_with fail
    refine (C0.out _ (pow10_below HT.out ((Below.refl _ _).alloc (Nat.le_refl _) _))).mono ?_
    rintro e w1 ⟨rfl, hb1⟩
    have HB1 := Lib.hid (below_trans ((Below.refl _ _).alloc (Nat.le_refl _) _) hb1 (by simp) : Below w.heap.size w w1)
    clear hb1
    go_wp2_with fail
    go_ret
    exact ⟨rfl, HB1.out⟩

set_option maxHeartbeats 8000000 in
theorem impl_PatternText (s : TPattern) (w : World) (hT : Pow10 w) (b0 : Hid (TPattern.fit s)) : Calls Tryd.prog 14 #[.agg #[.int .i64 s.f0, .int .i64 s.f1]] w (Says (.string ⟨(tPat s).toArray⟩) w) := by
  have C9 := fun W => impl_IsPattern s W
  have C8 := fun W => impl_scopeOf s W
  have HT := Lib.hid hT
  have C0 := Lib.hid (fun V hV => impl_optText (s.f0 != 0) s.f0 V hV b0.out.1)
  have C1 := Lib.hid (fun V hV => impl_optText (s.f1 != -1) s.f1 V hV b0.out.2)
  have hx := tOpt_in (v := s.f0 != 0) b0.out.1
  have hy := tOpt_in (v := s.f1 != -1) b0.out.2
  unfold tPat
  generalize tOpt (s.f0 != 0) s.f0 = X at C0 hx ⊢
  generalize tOpt (s.f1 != -1) s.f1 = Y at C1 hy ⊢
  generalize mIsPattern s = ok at C9 ⊢
  generalize hb0 : (s.f0 != 0) = bb0 at C0 C8
  generalize hb1 : (s.f1 != -1) = bb1 at C1 C8
  clear hb0 hb1
  have KB0 := Lib.hid (box_new w 25 #[.int .i64 s.f0, .int .i64 s.f1])
  have HB0 := Lib.hid ((Below.refl w.heap.size w).alloc (Nat.le_refl _) (.cells #[.int .i64 s.f0, .int .i64 s.f1] 25))
  clear hT
  cases ok with
  | false =>
    go_enter Tryd.func14, Tryd.ntmps14
    go_wp2_with fail
    refine (C9 _).mono ?_
    rintro e w1 ⟨rfl, hb1⟩
    have HB1 := Lib.hid (below_trans HB0.out hb1 (by simp))
    clear hb1
    go_wp2_with fail
    go_ret
    exact ⟨rfl, HB1.out⟩
  | true =>
    have hc0 : ∀ W, (Op.stringOp .add ⟨X.toArray⟩ ⟨#[47]⟩).run Tryd.prog W = .ok (.string ⟨((X : List UInt8) ++ [47]).toArray⟩) W := fun W => cat_lists (X) ([47]) (by first | omega | (simp; done) | (simp <;> omega)) (by first | omega | (simp; done) | (simp <;> omega)) W
    have hc1 : ∀ W, (Op.stringOp .add ⟨(X ++ [47]).toArray⟩ ⟨Y.toArray⟩).run Tryd.prog W = .ok (.string ⟨((X ++ [47] : List UInt8) ++ Y).toArray⟩) W := fun W => cat_lists (X ++ [47]) (Y) (by first | omega | (simp; done) | (simp <;> omega)) (by first | omega | (simp; done) | (simp <;> omega)) W
    go_enter Tryd.func14, Tryd.ntmps14
    go_wp2_with fail
    refine (C9 _).mono ?_
    rintro e w1 ⟨rfl, hb1⟩
    have HB1 := Lib.hid (below_trans HB0.out hb1 (by simp))
    have KB1 := KB0.out.new hb1
    have e0 := KB1.at_ (j := 0) rfl
    have e1 := KB1.at_ (j := 1) rfl
    have hl1 := KB1.lt
    clear hb1
    go_wp2_with fail
    refine (C8 _).mono ?_
    rintro e w2 ⟨rfl, hb2⟩
    have HB2 := Lib.hid (below_trans HB1.out hb2 (Nat.le_refl _))
    clear hb2 e0 e1 hl1 KB1
    obtain ⟨HV, HBv⟩ := (⟨Lib.hid (boxvar w2 73 #[.bool false, .int .i64 0, .bool false, .int .i64 0] #[.bool bb0, .int .i64 s.f0, .bool bb1, .int .i64 s.f1]).1, Lib.hid (boxvar w2 73 #[.bool false, .int .i64 0, .bool false, .int .i64 0] #[.bool bb0, .int .i64 s.f0, .bool bb1, .int .i64 s.f1]).2⟩ : Hid _ ∧ Hid _)
    go_wp2_with (refine wpList_store_row rfl 73 _ _ rfl w2.heap.size #[.bool bb0, .int .i64 s.f0, .bool bb1, .int .i64 s.f1] rfl rfl 73 _ (box_new w2 73 #[.bool false, .int .i64 0, .bool false, .int .i64 0]) (by kernel_rfl) (by kernel_rfl) (by kernel_rfl) ?_; generalize World.setRow (w2.alloc (.cells #[.bool false, .int .i64 0, .bool false, .int .i64 0] 73)) w2.heap.size #[.bool bb0, .int .i64 s.f0, .bool bb1, .int .i64 s.f1] = w3 at HV HBv ⊢)
    refine wp_region_held_drew (S := fun w' => BoxAt w' w2.heap.size 73 #[.bool bb0, .int .i64 s.f0, .bool bb1, .int .i64 s.f1] ∧ Below w.heap.size w w') (by kernel_rfl) ?_ (fun hHeld => ?_)
    · exact ⟨HV.out.drw, (HB2.out.trans (HBv.out.mono HB2.out.size)).drew⟩
    refine wpAnyH_take (i := 0) (oi := ⟨some 9, _, _, _, _, _⟩) (v := ?_) rfl (by kernel_rfl) (by kernel_rfl) (by kernel_rfl) (fun _ _ _ h => h) (Or.inl ⟨by kernel_rfl, ?_⟩) hHeld ?_
    rotate_left
    focus (intro W hS; have c0_0 := (hS.1).at_ (j := 0) rfl; have c0_1 := (hS.1).at_ (j := 1) rfl; have c0_2 := (hS.1).at_ (j := 2) rfl; have c0_3 := (hS.1).at_ (j := 3) rfl; clear hS; first | (go_simp; done) | (go_simp; with_reducible rfl))
    try simp only [Act.put, List.setIfInBounds_toArray, List.set_cons_zero, List.set_cons_succ]
    refine wpAnyH_take (i := 1) (oi := ⟨some 10, _, _, _, _, _⟩) (v := ?_) rfl (by kernel_rfl) (by kernel_rfl) (by kernel_rfl) (fun _ _ _ h => h) (Or.inl ⟨by kernel_rfl, ?_⟩) hHeld ?_
    rotate_left
    focus (intro W hS; have c0_0 := (hS.1).at_ (j := 0) rfl; have c0_1 := (hS.1).at_ (j := 1) rfl; have c0_2 := (hS.1).at_ (j := 2) rfl; have c0_3 := (hS.1).at_ (j := 3) rfl; clear hS; first | (go_simp; done) | (go_simp; with_reducible rfl))
    try simp only [Act.put, List.setIfInBounds_toArray, List.set_cons_zero, List.set_cons_succ]
    refine wpAnyH_take (i := 4) (oi := ⟨some 13, _, _, _, _, _⟩) (v := ?_) rfl (by kernel_rfl) (by kernel_rfl) (by kernel_rfl) (fun _ _ _ h => h) (Or.inl ⟨by kernel_rfl, ?_⟩) hHeld ?_
    rotate_left
    focus (intro W hS; have c0_0 := (hS.1).at_ (j := 0) rfl; have c0_1 := (hS.1).at_ (j := 1) rfl; have c0_2 := (hS.1).at_ (j := 2) rfl; have c0_3 := (hS.1).at_ (j := 3) rfl; clear hS; first | (go_simp; done) | (go_simp; with_reducible rfl))
    try simp only [Act.put, List.setIfInBounds_toArray, List.set_cons_zero, List.set_cons_succ]
    refine wpAnyH_take (i := 5) (oi := ⟨some 14, _, _, _, _, _⟩) (v := ?_) rfl (by kernel_rfl) (by kernel_rfl) (by kernel_rfl) (fun _ _ _ h => h) (Or.inl ⟨by kernel_rfl, ?_⟩) hHeld ?_
    rotate_left
    focus (intro W hS; have c0_0 := (hS.1).at_ (j := 0) rfl; have c0_1 := (hS.1).at_ (j := 1) rfl; have c0_2 := (hS.1).at_ (j := 2) rfl; have c0_3 := (hS.1).at_ (j := 3) rfl; clear hS; first | (go_simp; done) | (go_simp; with_reducible rfl))
    try simp only [Act.put, List.setIfInBounds_toArray, List.set_cons_zero, List.set_cons_succ]
    refine wpAnyH_ready (rs := [2]) (by kernel_rfl) (by simp) ?_
    refine AllReadyH.cons (o := ⟨some 11, _, _, _, _, _⟩) rfl (fun K hK => ?_) AllReadyH.nil
    go_simp
    refine Calls.mono (C0.out _ (pow10_below HT.out hHeld.2)) ?_
    rintro e x1 ⟨rfl, hb1⟩
    refine hK.out _ _ ⟨hHeld.1.new hb1, below_trans hHeld.2 hb1 (Nat.le_refl _)⟩ (fun hHeld' => ?_)
    clear hK K hHeld hb1
    have hHeld := hHeld'
    clear hHeld'
    try simp only [Act.put, List.setIfInBounds_toArray, List.set_cons_zero, List.set_cons_succ]
    refine wpAnyH_take (i := 3) (oi := ⟨some 12, _, _, _, _, _⟩) (v := ?_) rfl (by kernel_rfl) (by kernel_rfl) (by kernel_rfl) (fun _ _ _ h => h) (Or.inl ⟨by kernel_rfl, ?_⟩) hHeld ?_
    rotate_left
    focus (intro W hS; have c0_0 := (hS.1).at_ (j := 0) rfl; have c0_1 := (hS.1).at_ (j := 1) rfl; have c0_2 := (hS.1).at_ (j := 2) rfl; have c0_3 := (hS.1).at_ (j := 3) rfl; clear hS; first | (go_simp; done) | (go_simp; with_reducible rfl))
    try simp only [Act.put, List.setIfInBounds_toArray, List.set_cons_zero, List.set_cons_succ]
    refine wpAnyH_ready (rs := [6]) (by kernel_rfl) (by simp) ?_
    refine AllReadyH.cons (o := ⟨some 15, _, _, _, _, _⟩) rfl (fun K hK => ?_) AllReadyH.nil
    go_simp
    refine Calls.mono (C1.out _ (pow10_below HT.out hHeld.2)) ?_
    rintro e x2 ⟨rfl, hb1⟩
    refine hK.out _ _ ⟨hHeld.1.new hb1, below_trans hHeld.2 hb1 (Nat.le_refl _)⟩ (fun hHeld' => ?_)
    clear hK K hHeld hb1
    have hHeld := hHeld'
    clear hHeld'
    try simp only [Act.put, List.setIfInBounds_toArray, List.set_cons_zero, List.set_cons_succ]
    refine wpAnyH_take (i := 7) (oi := ⟨some 16, _, _, _, _, _⟩) (v := ?_) rfl (by kernel_rfl) (by kernel_rfl) (by kernel_rfl) (fun _ _ _ h => h) (Or.inl ⟨by kernel_rfl, ?_⟩) hHeld ?_
    rotate_left
    focus (intro W hS; have c0_0 := (hS.1).at_ (j := 0) rfl; have c0_1 := (hS.1).at_ (j := 1) rfl; have c0_2 := (hS.1).at_ (j := 2) rfl; have c0_3 := (hS.1).at_ (j := 3) rfl; clear hS; first | (go_simp; done) | (go_simp; with_reducible rfl))
    try simp only [Act.put, List.setIfInBounds_toArray, List.set_cons_zero, List.set_cons_succ]
    refine wpAnyH_take (i := 8) (oi := ⟨some 2, _, _, _, _, _⟩) (v := ?_) rfl (by kernel_rfl) (by kernel_rfl) (by kernel_rfl) (fun _ _ _ h => h) (Or.inl ⟨by kernel_rfl, ?_⟩) hHeld ?_
    rotate_left
    focus (intro W hS; have c0_0 := (hS.1).at_ (j := 0) rfl; have c0_1 := (hS.1).at_ (j := 1) rfl; have c0_2 := (hS.1).at_ (j := 2) rfl; have c0_3 := (hS.1).at_ (j := 3) rfl; clear hS; first | (go_simp; done) | (go_simp; with_reducible rfl))
    try simp only [Act.put, List.setIfInBounds_toArray, List.set_cons_zero, List.set_cons_succ]
    refine wpAnyH_done (by kernel_rfl) ?_ _
    go_wp2_with fail
    go_ret
    exact ⟨by simp, hHeld.2⟩

end Go.Proofs.YtlnmgfbfpjfddaaDoor
