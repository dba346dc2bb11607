/- SentText of the program. -/
import Derived.Test.YtpefeihpoafkdaaDoorLst
import Derived.Test.YtpefeihpoafkdaaDoorTxLab
import Derived.Test.YtpefeihpoafkdaaDoorWrJ
import Derived.Test.YtpefeihpoafkdaaDoorTSent
import Derived.Deep.RegionHeld3
import Derived.Deep.LoopGhost
import Derived.Lib.Join
import Derived.Deep.OwnRows
namespace Go.Proofs.YtpefeihpoafkdaaDoor
open Go Go.ChangeShapes Go.WideShapes Go.ChangeAt Go.RowKit Go.Lib
set_option linter.unusedVariables false
set_option linter.unusedSimpArgs false
set_option maxRecDepth 100000
theorem itoa_one {z : Int} (h : 1 ≤ z ∧ z ≤ 9) : (itoa z).length ≤ 1 := by
  rw [itoa, if_neg (by omega), decDigits, dif_pos (by omega)]
  simp
theorem tLab_len (x : Int) : (tLab x).length ≤ 20 := by
  unfold tLab
  split
  · simp
  · have h1 := jn_len (sep := [43]) (by decide) 1 ((mOwn x).map itoa) (fun t ht => by
      obtain ⟨z, hz, rfl⟩ := List.mem_map.1 ht
      exact itoa_one (own_in hz))
    have h2 := mOwn_len x
    rw [List.length_map] at h1
    show (Lib.join _ _).length ≤ 20
    omega
def tSn (x : TSent) : List UInt8 := itoa x.f0 ++ [61] ++ itoa x.f1 ++ [91] ++ tLab x.f2 ++ [93]
theorem tSn_len {x : TSent} (hf : x.fit) : (tSn x).length ≤ 63 := by
  obtain ⟨f0, f1, f2⟩ := hf
  have := itoa_in f0
  have := itoa_in f1
  have := tLab_len x.f2
  unfold tSn
  simp only [List.length_append, List.length_cons, List.length_nil]
  omega
theorem tSn_ne (x : TSent) : tSn x ≠ [] := by unfold tSn; simp

set_option maxHeartbeats 16000000 in
theorem impl_oneSentText (x : TSent) (w : World) (hT : Pow10 w) (b0 : Hid x.fit) : Calls Tryd.prog 24 #[.agg #[.int .i64 x.f0, .int .i64 x.f1, .int .i64 x.f2]] w (Says (.string ⟨(tSn x).toArray⟩) w) := by
  have HT := Lib.hid hT
  have hf := b0.out
  obtain ⟨f0, f1, f2⟩ := hf
  have C0 := Lib.hid (says_impl x.f0 f0)
  have hx0 := itoa_in f0
  have C1 := Lib.hid (says_impl x.f1 f1)
  have hx1 := itoa_in f1
  have C2 := Lib.hid (fun W hW => impl_LabelText x.f2 W hW)
  have hx2 := tLab_len x.f2
  unfold tSn at ⊢
  generalize itoa x.f0 = X0 at C0 hx0 ⊢
  generalize itoa x.f1 = X1 at C1 hx1 ⊢
  generalize tLab x.f2 = X2 at C2 hx2 ⊢
  clear f0 f1 f2
  have KB0 := Lib.hid (box_new w 46 #[.int .i64 x.f0, .int .i64 x.f1, .int .i64 x.f2])
  have HB0 := Lib.hid ((Below.refl w.heap.size w).alloc (Nat.le_refl _) (.cells #[.int .i64 x.f0, .int .i64 x.f1, .int .i64 x.f2] 46))
  clear hT b0
  go_enter Tryd.func24, Tryd.ntmps24
  go_wp2_with fail
  obtain ⟨gwr, hgwr⟩ : ∃ g, g = w.heap.size + 1 := ⟨_, rfl⟩
  have Gwr : BoxAt ((w.alloc (.cells #[.int .i64 x.f0, .int .i64 x.f1, .int .i64 x.f2] 46)).alloc (.cells #[.slice none 0 0] 65)).drew gwr 65 #[.slice none 0 0] := by
    subst hgwr
    have h := (box_new (w.alloc (.cells #[.int .i64 x.f0, .int .i64 x.f1, .int .i64 x.f2] 46)) 65 #[.slice none 0 0]).drw
    simpa using h
  rw [← hgwr]
  have Lwr : w.heap.size ≤ gwr := by omega
  have Lwl : w.heap.size < gwr := by omega
  clear hgwr
  refine wp_region_held_drew (S := fun w' => BoxAt w' w.heap.size 46 #[.int .i64 x.f0, .int .i64 x.f1, .int .i64 x.f2] ∧ Below w.heap.size w w') (by kernel_rfl) ?_ (fun hHeld => ?_)
  · exact ⟨(KB0.out.alloc_ _).drw, (HB0.out.alloc (by simp) _).drew⟩
  generalize (World.drew _) = x0 at hHeld Gwr ⊢
  refine wpAnyH_take (i := 0) (oi := ⟨some 4, _, _, _, _, _⟩) (v := ?_) rfl (by kernel_rfl) (by kernel_rfl) (by kernel_rfl) (fun _ _ _ h => h) (Or.inl ⟨by kernel_rfl, ?_⟩) hHeld ?_
  rotate_left
  focus (intro W hS; have c0_0 := (hS.1).at_ (j := 0) rfl; have c0_1 := (hS.1).at_ (j := 1) rfl; have c0_2 := (hS.1).at_ (j := 2) rfl; clear hS; first | (go_simp; done) | (go_simp; with_reducible rfl))
  try simp only [Act.put, List.setIfInBounds_toArray, List.set_cons_zero, List.set_cons_succ]
  refine wpAnyH_take (i := 1) (oi := ⟨some 5, _, _, _, _, _⟩) (v := ?_) rfl (by kernel_rfl) (by kernel_rfl) (by kernel_rfl) (fun _ _ _ h => h) (Or.inl ⟨by kernel_rfl, ?_⟩) hHeld ?_
  rotate_left
  focus (intro W hS; have c0_0 := (hS.1).at_ (j := 0) rfl; have c0_1 := (hS.1).at_ (j := 1) rfl; have c0_2 := (hS.1).at_ (j := 2) rfl; clear hS; first | (go_simp; done) | (go_simp; with_reducible rfl))
  try simp only [Act.put, List.setIfInBounds_toArray, List.set_cons_zero, List.set_cons_succ]
  refine wpAnyH_take (i := 3) (oi := ⟨some 7, _, _, _, _, _⟩) (v := ?_) rfl (by kernel_rfl) (by kernel_rfl) (by kernel_rfl) (fun _ _ _ h => h) (Or.inl ⟨by kernel_rfl, ?_⟩) hHeld ?_
  rotate_left
  focus (intro W hS; have c0_0 := (hS.1).at_ (j := 0) rfl; have c0_1 := (hS.1).at_ (j := 1) rfl; have c0_2 := (hS.1).at_ (j := 2) rfl; clear hS; first | (go_simp; done) | (go_simp; with_reducible rfl))
  try simp only [Act.put, List.setIfInBounds_toArray, List.set_cons_zero, List.set_cons_succ]
  refine wpAnyH_take (i := 4) (oi := ⟨some 8, _, _, _, _, _⟩) (v := ?_) rfl (by kernel_rfl) (by kernel_rfl) (by kernel_rfl) (fun _ _ _ h => h) (Or.inl ⟨by kernel_rfl, ?_⟩) hHeld ?_
  rotate_left
  focus (intro W hS; have c0_0 := (hS.1).at_ (j := 0) rfl; have c0_1 := (hS.1).at_ (j := 1) rfl; have c0_2 := (hS.1).at_ (j := 2) rfl; clear hS; first | (go_simp; done) | (go_simp; with_reducible rfl))
  try simp only [Act.put, List.setIfInBounds_toArray, List.set_cons_zero, List.set_cons_succ]
  refine wpAnyH_take (i := 6) (oi := ⟨some 10, _, _, _, _, _⟩) (v := ?_) rfl (by kernel_rfl) (by kernel_rfl) (by kernel_rfl) (fun _ _ _ h => h) (Or.inl ⟨by kernel_rfl, ?_⟩) hHeld ?_
  rotate_left
  focus (intro W hS; have c0_0 := (hS.1).at_ (j := 0) rfl; have c0_1 := (hS.1).at_ (j := 1) rfl; have c0_2 := (hS.1).at_ (j := 2) rfl; clear hS; first | (go_simp; done) | (go_simp; with_reducible rfl))
  try simp only [Act.put, List.setIfInBounds_toArray, List.set_cons_zero, List.set_cons_succ]
  refine wpAnyH_take (i := 7) (oi := ⟨some 11, _, _, _, _, _⟩) (v := ?_) rfl (by kernel_rfl) (by kernel_rfl) (by kernel_rfl) (fun _ _ _ h => h) (Or.inl ⟨by kernel_rfl, ?_⟩) hHeld ?_
  rotate_left
  focus (intro W hS; have c0_0 := (hS.1).at_ (j := 0) rfl; have c0_1 := (hS.1).at_ (j := 1) rfl; have c0_2 := (hS.1).at_ (j := 2) rfl; clear hS; first | (go_simp; done) | (go_simp; with_reducible rfl))
  try simp only [Act.put, List.setIfInBounds_toArray, List.set_cons_zero, List.set_cons_succ]
  refine wpAnyH_ready (rs := [2]) (by kernel_rfl) (by simp) ?_
  refine AllReadyH.cons (o := ⟨some 6, _, _, _, _, _⟩) rfl (fun K hK => ?_) AllReadyH.nil
  go_simp
  refine Calls.mono (C0.out _ (pow10_below HT.out hHeld.2)) ?_
  rintro e x1 ⟨rfl, hb1⟩
  replace Gwr := Gwr.new hb1
  refine hK.out _ _ ⟨hHeld.1.new hb1, below_trans hHeld.2 hb1 (Nat.le_refl _)⟩ (fun hHeld' => ?_)
  clear hK K hHeld hb1
  have hHeld := hHeld'
  clear hHeld'
  try simp only [Act.put, List.setIfInBounds_toArray, List.set_cons_zero, List.set_cons_succ]
  refine wpAnyH_ready (rs := [5]) (by kernel_rfl) (by simp) ?_
  refine AllReadyH.cons (o := ⟨some 9, _, _, _, _, _⟩) rfl (fun K hK => ?_) AllReadyH.nil
  go_simp
  refine Calls.mono (C1.out _ (pow10_below HT.out hHeld.2)) ?_
  rintro e x2 ⟨rfl, hb1⟩
  replace Gwr := Gwr.new hb1
  refine hK.out _ _ ⟨hHeld.1.new hb1, below_trans hHeld.2 hb1 (Nat.le_refl _)⟩ (fun hHeld' => ?_)
  clear hK K hHeld hb1
  have hHeld := hHeld'
  clear hHeld'
  try simp only [Act.put, List.setIfInBounds_toArray, List.set_cons_zero, List.set_cons_succ]
  refine wpAnyH_ready (rs := [8]) (by kernel_rfl) (by simp) ?_
  refine AllReadyH.cons (o := ⟨some 12, _, _, _, _, _⟩) rfl (fun K hK => ?_) AllReadyH.nil
  go_simp
  refine Calls.mono (C2.out _ (pow10_below HT.out hHeld.2)) ?_
  rintro e x3 ⟨rfl, hb1⟩
  replace Gwr := Gwr.new hb1
  refine hK.out _ _ ⟨hHeld.1.new hb1, below_trans hHeld.2 hb1 (Nat.le_refl _)⟩ (fun hHeld' => ?_)
  clear hK K hHeld hb1
  have hHeld := hHeld'
  clear hHeld'
  try simp only [Act.put, List.setIfInBounds_toArray, List.set_cons_zero, List.set_cons_succ]
  refine wpAnyH_ready (rs := [9]) (by kernel_rfl) (by simp) ?_
  refine AllReadyH.cons (o := ⟨some 13, _, _, _, _, _⟩) rfl (fun K hK => ?_) AllReadyH.nil
  go_simp
  have Glit := box_new (x3) 9 #[.string ⟨X0.toArray⟩, .string ⟨#[61]⟩, .string ⟨X1.toArray⟩, .string ⟨#[91]⟩, .string ⟨X2.toArray⟩, .string ⟨#[93]⟩]
  have hb1 := (Below.refl (x3).heap.size (x3)).alloc (Nat.le_refl _) (.cells #[.string ⟨X0.toArray⟩, .string ⟨#[61]⟩, .string ⟨X1.toArray⟩, .string ⟨#[91]⟩, .string ⟨X2.toArray⟩, .string ⟨#[93]⟩] 9)
  have Llit : w.heap.size ≤ (x3).heap.size := by have := (hHeld.1).lt; have := (hHeld.2).size; omega
  have M0lit : w.heap.size < (x3).heap.size := (hHeld.1).lt
  have Nwrlit : gwr < (x3).heap.size := Gwr.lt
  replace Gwr := Gwr.new hb1
  generalize (x3).alloc (.cells #[.string ⟨X0.toArray⟩, .string ⟨#[61]⟩, .string ⟨X1.toArray⟩, .string ⟨#[91]⟩, .string ⟨X2.toArray⟩, .string ⟨#[93]⟩] 9) = x4 at hb1 Glit Gwr ⊢
  generalize hg : (x3).heap.size = glit at Glit Llit Nwrlit M0lit ⊢
  clear hg
  refine hK.out _ _ ⟨hHeld.1.new hb1, below_trans hHeld.2 hb1 (Nat.le_refl _)⟩ (fun hHeld' => ?_)
  clear hK K hHeld hb1
  have hHeld := hHeld'
  clear hHeld'
  try simp only [Act.put, List.setIfInBounds_toArray, List.set_cons_zero, List.set_cons_succ]
  refine wpAnyH_ready (rs := [10]) (by kernel_rfl) (by simp) ?_
  refine AllReadyH.cons (o := ⟨some 14, _, _, _, _, _⟩) rfl (fun K hK => ?_) AllReadyH.nil
  have HLIT : ∀ (j : Nat) t, ([X0, [61], X1, [91], X2, [93]] : List (List UInt8))[j]? = some t → x4.cell? ⟨glit, 0 + j, none⟩ = some (.string ⟨t.toArray⟩) := by
    intro j t hj
    rcases j with _ | _ | _ | _ | _ | _ | j
    · simp at hj; subst hj; exact Glit.at_ (j := 0) rfl
    · simp at hj; subst hj; exact Glit.at_ (j := 1) rfl
    · simp at hj; subst hj; exact Glit.at_ (j := 2) rfl
    · simp at hj; subst hj; exact Glit.at_ (j := 3) rfl
    · simp at hj; subst hj; exact Glit.at_ (j := 4) rfl
    · simp at hj; subst hj; exact Glit.at_ (j := 5) rfl
    · simp at hj
  have hgw := Gwr.lt
  go_simp
  refine Calls.mono (impl_put gwr (gwr + 1) [] (.slice none 0 0) [X0, [61], X1, [91], X2, [93]] glit 0 6 _ (by omega) (by omega) ⟨Gwr, World.ownsRow_nil _ _ _ _⟩ HLIT (by omega) (by simp [Value.ownBlock]) (by simp) (by simp; omega)) ?_
  rintro e xP ⟨rfl, vP, hWP, _, hPP⟩
  have HBP : Below gwr x4 xP := hPP.below (Nat.le_refl _) (fun q hq => by simp [Value.ownBlock] at hq) (by omega)
  have HWP := Lib.hid (show Wrt xP gwr (gwr + 1) (X0 ++ [61] ++ X1 ++ [91] ++ X2 ++ [93]) vP by simpa using hWP)
  have Q1 := hHeld.1.keep (HBP.block _ (by omega))
  have Q2 := hHeld.2.trans (HBP.mono (by omega))
  refine hK.out _ _ ⟨Q1, Q2⟩ (fun hHeld' => ?_)
  clear hK K hHeld hPP hWP HBP Q1 Q2 Gwr Glit HLIT
  have hHeld := hHeld'
  clear hHeld'
  try simp only [Act.put, List.setIfInBounds_toArray, List.set_cons_zero, List.set_cons_succ]
  refine wpAnyH_done (by kernel_rfl) ?_ _
  have HBp := Lib.hid hHeld.2
  have hgs : gwr < xP.heap.size := HWP.out.1.lt
  clear hHeld
  generalize hJe : X0 ++ [61] ++ X1 ++ [91] ++ X2 ++ [93] = J at HWP ⊢
  have HJe := Lib.hid hJe
  clear hJe
  have HTx := Lib.hid (impl_text gwr (gwr + 1) _ vP _ HWP.out)
  go_wp2_with fail
  refine HTx.out.mono ?_
  rintro e w9 ⟨rfl, rfl⟩
  go_wp2_with fail
  go_ret
  exact ⟨by rw [HJe.out]; rfl, HBp.out⟩

set_option maxHeartbeats 8000000 in
theorem impl_mappedS (l : List TSent) (A : Option Addr) (n c lo hi : Nat) (w : World) (hT : Pow10 w) (hn : n ≤ 1048576) (hr : Rd w lo hi 3 A n (cSent l)) (b0 : Hid (cSentOk l)) :
    Calls Tryd.prog 23 #[.slice A n c, .func (.func 24) #[] #[]] w (Makes 9 1 n ((l.map tSn).map vStr) w) := by
  have HL := Lib.hid (rd_len TSent.len hr (by decide))
  have HLm := Lib.hid (show (l.map tSn).length = n by rw [List.length_map, HL.out])
  have HF := Lib.hid (fun x (h : x ∈ l) => b0.out x h)
  have hmk : ∀ W, (Instr.makeSlice 41 (.int .i64 n) (.int .i64 n)).run Tryd.prog W = .ok (.slice (some ⟨W.heap.size, 0, none⟩) n n) (W.alloc (.cells (madeCells #[.string ⟨#[]⟩] n) 9)) := fun W => run_make_row' (P := Tryd.prog) 41 9 (.string ⟨#[]⟩) 16 Tryd.underlying41 info_str rfl .i64 .i64 n (by omega) (by omega) W
  have HR := Lib.hid hr
  have HT := Lib.hid hT
  obtain ⟨ts, hts⟩ : ∃ ts, l.map tSn = ts := ⟨_, rfl⟩
  have HTs := Lib.hid hts
  rw [hts] at HLm ⊢
  clear hr hT b0 hts
  go_enter Tryd.func23, Tryd.ntmps23
  go_wp2_with fail
  go_loopg [13] n (fun gg i wr => ∃ k : Nat, k ≤ n ∧ n - k ≤ gg ∧ i = .int .i64 k ∧ Hid (Pre wr w.heap.size 9 n (ts.map vStr) k) ∧ Hid (Below w.heap.size w wr))
  case atStart => exact ⟨0, Nat.zero_le _, by omega, rfl, Lib.hid (pre_start (by rw [size_madeCells])), Lib.hid ((Below.refl _ _).alloc (Nat.le_refl _) _)⟩
  case round =>
    obtain ⟨k, hk, hg, rfl, HP, HB⟩ := hrel
    have HS := Lib.hid HB.out.size
    by_cases hlt : k < n
    · obtain ⟨b, off, x, rfl, _, _, hz, hc⟩ := rd_elem TSent.len (HR.out.new HB.out) HL.out hlt
      have c0 : wr.cell? ⟨b, off + k * 3, none⟩ = _ := hc 0 _ rfl
      have c1 := hc 1 _ rfl
      have c2 := hc 2 _ rfl
      have HV : Hid ((ts.map vStr)[k]? = some (vStr (tSn x))) := Lib.hid (by rw [← HTs.out, List.getElem?_map, List.getElem?_map, hz]; rfl)
      have C0 := Lib.hid (fun W hW => impl_oneSentText x W hW (Lib.hid (HF.out x (List.mem_of_getElem? hz))))
      generalize tSn x = X at C0 HV
      clear hz hc
      go_wp2_with (go_at_call 24; refine Calls.mono (C0.out _ (pow10_below HT.out (HB.out.alloc HS.out _))) ?_; rintro e w1 ⟨rfl, hb1⟩; have HP1 := Lib.hid ((HP.out.new ((Below.refl _ _).alloc (Nat.le_refl _) _)).new hb1); have HB1 := Lib.hid (below_trans (HB.out.alloc HS.out _) hb1 (by simp)); obtain ⟨q0, d0⟩ := HP1.out.cell (j := k) hlt; have g0 := HP1.out.frozen k; clear hb1 c0 c1 c2)
      go_roundg (n - (k + 1))
      case measure => omega
      case rel => exact ⟨k + 1, by omega, by omega, by go_num, Lib.hid (HP1.out.step HV.out), Lib.hid (HB1.out.setCell (by simp) _)⟩
    · obtain rfl : n = k := by omega
      go_wp2_with fail
      go_ret
      exact ⟨_, _, rfl, (HP.out.at_ (by omega) |> fun h => Pre.fr (size := 1) (by simpa using h) (by omega) (by have := HP.out.lt; exact this) (by unfold maxLen; omega) (by rw [List.length_map, HLm.out]; omega)), HB.out⟩
set_option maxHeartbeats 8000000 in
theorem impl_SentText (l : List TSent) (A : Option Addr) (n c lo hi : Nat) (w : World) (hT : Pow10 w) (hn : n ≤ 1048576) (hr : Rd w lo hi 3 A n (cSent l)) (b0 : Hid (cSentOk l)) :
    Calls Tryd.prog 13 #[.slice A n c] w (Says (.string ⟨(lTx (l.map tSn)).toArray⟩) w) := by
  have CM := Lib.hid (impl_mappedS l A n c lo hi w hT hn hr b0)
  have HL := Lib.hid (rd_len TSent.len hr (by decide))
  have HLm := Lib.hid (show (l.map tSn).length = n by rw [List.length_map, HL.out])
  have HI := Lib.hid (show (l.map tSn).flatten.length ≤ 63 * n by rw [← HLm.out]; exact fl_len 63 _ (in_map (fun x hx => tSn_len (b0.out x hx))))
  have HEq := Lib.hid (show tLst (l.map tSn) [32] = lTx (l.map tSn) by
    unfold tLst lTx
    cases l with
    | nil => rfl
    | cons z t =>
      rw [List.map_cons, if_neg (jn_ne (tSn_ne z)), if_neg (by simp)])
  rw [← HEq.out]
  have CL := Lib.hid (fun (W : World) (A1 : Option Addr) (c1 lo1 hi1 : Nat) (h : Rd W lo1 hi1 1 A1 n ((l.map tSn).map vStr)) => impl_listText (l.map tSn) A1 n c1 lo1 hi1 [32] W hn (by have h1 := HI.out; have h2 : ([32] : List UInt8).length = 1 := rfl; rw [h2]; omega) (by decide) h)
  generalize tLst (l.map tSn) [32] = T at CL ⊢
  clear hr HEq HI
  go_enter Tryd.func13, Tryd.ntmps13
  go_wp2_with fail
  refine CM.out.mono ?_
  rintro e w1 ⟨A1, c1, rfl, hf1, hb1⟩
  have CL1 := Lib.hid (CL.out w1 A1 c1 _ _ hf1.rd)
  have HB1 := Lib.hid hb1
  clear hf1 hb1
  go_wp2_with fail
  refine CL1.out.mono ?_
  rintro e w2 ⟨rfl, hb2⟩
  have HB2 := Lib.hid (below_trans HB1.out hb2 (Nat.le_refl _))
  clear hb2
  go_wp2_with fail
  go_ret
  exact ⟨rfl, HB2.out⟩

end Go.Proofs.YtpefeihpoafkdaaDoor
