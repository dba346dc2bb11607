/- The memo of handles, and a keyring. -/
import Derived.Test.YtomoigbhikihfaaKyA
import Derived.Test.YtomoigbhikihfaaHandle
import Derived.Test.YtomoigbhikihfaaFun
import Derived.Test.YtomoigbhikihfaaSgJ
import Derived.Deep.RegionHeld3
import Derived.Deep.LoopGhost
namespace Go.Proofs.Ytomoigbhikihfaa
open Go Go.ChangeShapes Go.WideShapes Go.ChangeAt Go.RowKit Go.Lib
set_option linter.unusedVariables false
set_option linter.unusedSimpArgs false
set_option maxRecDepth 100000
theorem mHandle_bd (a b c : Int) : 0 ≤ mHandle a b c ∧ mHandle a b c ≤ 100000 := by
  unfold mHandle
  split
  · omega
  · omega
theorem mHandle_wf (a b c : Int) : (Lit.int .i64 (mHandle a b c)).wf = true := WalkArith.wf_i64 (by have := mHandle_bd a b c; omega)
theorem own_chg {w w' : World} {base lo hi size n : Nat} {e : TypeId} {v : Value} {xs : List Value} (h : w.ownsRow base e size v n xs) (hc : Chg lo hi w w') (hb : hi ≤ base) : w'.ownsRow base e size v n xs := by
  refine ⟨h.1, ?_⟩
  rcases h.2 with hn | ⟨g, cap, cur, hv, hg, hh, rest⟩
  · exact .inl hn
  · refine .inr ⟨g, cap, cur, hv, hg, ?_, rest⟩
    rw [hc.block g (Array.getElem?_eq_some_iff.1 hh).1 (by omega)]
    exact hh
theorem Chg.then_below {lo hi : Nat} {V w w' : World} (h : Chg lo hi V w) (k : Below V.heap.size w w') : Chg lo hi V w' :=
  ⟨k.os.trans h.os, k.tape.trans h.tape, k.output.trans h.output, Nat.le_trans h.size k.size, fun i hi hn => (k.block i hi).trans (h.block i hi hn)⟩
/-- 'v, ok := m[k]' where it is known whether the key is there. -/
theorem wp_look3_of {w : World} {ops : Array Oper} {rest : List Oper} {o : Oper} {a : Act} {Q : Exit → Act → World → Prop} (hg : o.guard = none) (m x : Operand) (t : TypeId) (hop : o.op = Op.lookup t m x true) (ht : Try.prog.underlying t = some (.map 96 3)) (b n : Nat) (D : DataW Unit) (hm : a.eval m = .map (some b)) (h : w.ownsMap Try.prog 96 (plainElem Try.prog 3) b n D) (r : Bool)
    (s y id : Int) (hr : Maps.has D (K3 s y id) = r) (hx : a.eval x = .agg #[.int .i64 s, .int .i64 y, .int .i64 id]) (hs : (Lit.int .i64 s).wf = true) (hy : (Lit.int .i64 y).wf = true) (hw : (Lit.int .i64 id).wf = true)
    (hK : ∀ v : Int, Hid (D.atKey (K3 s y id) (.lit (.int .i64 0)) = .lit (.int .i64 v)) → wpList Try.prog ops Q rest (a.put o.dst (.tuple #[.int .i64 v, .bool r])) w) : wpList Try.prog ops Q (o :: rest) a w := by
  refine wpList_lookup_own_ok_int w hg m x t hop 96 3 .i64 keyed_arr ht Try.underlying3 (zero_int3 _) b n D hm h (.agg #[.int .i64 s, .int .i64 y, .int .i64 id]) (K3 s y id) hx (key3 s y id hs hy hw) ?_
  intro c hc hwc
  rw [hr]
  exact hK c (Lib.hid hc)
theorem work_any (s y id : Int) (w : World) (hs : (Lit.int .i64 s).wf = true) (hy : (Lit.int .i64 y).wf = true) (hid : (Lit.int .i64 id).wf = true) :
    Calls Try.prog 77 #[.agg #[.int .i64 s, .int .i64 y, .int .i64 id]] w (Says (.int .i64 (mHandle s y id)) w) := by
  have HC := Lib.hid (fun W => impl_HandleOf s y id W hs hy hid)
  generalize mHandle s y id = r at HC ⊢
  clear hs hy hid
  go_enter Try.func77, Try.ntmps77
  go_wp2_with fail
  refine (HC.out _).mono ?_
  rintro e1 w1 ⟨rfl, hb1⟩
  have HB1 := Lib.hid (below_trans ((Below.refl w.heap.size w).alloc (Nat.le_refl _) _) hb1 (by simp))
  clear hb1
  go_wp2_with fail
  go_ret
  exact ⟨rfl, HB1.out⟩
/-- What the memo answers and leaves. -/
def Got (s y id : Int) (M n : Nat) (w : World) (e : Ending) (w' : World) : Prop :=
  e = .returned (.int .i64 (mHandle s y id)) ∧ MapH w' M (n + 1) s y (mHandle s y) ∧ Chg M (M + 1) w w'
set_option maxHeartbeats 4000000 in
theorem get_any (s y id : Int) (M n : Nat) (w : World) (hs : (Lit.int .i64 s).wf = true) (hy : (Lit.int .i64 y).wf = true) (hid : (Lit.int .i64 id).wf = true) (hM : MapH w M n s y (mHandle s y)) (hn : n < maxLen) :
    Calls Try.prog 79 #[.agg #[.map (some M), (.func (.func 77) #[] #[])], .agg #[.int .i64 s, .int .i64 y, .int .i64 id]] w (Got s y id M n w) := by
  have hMl := hM.lt
  have HU := Lib.hid (show Try.prog.underlying 72 = some (.map 96 3) by kernel_rfl)
  have HMa := Lib.hid ((hM.alloc_ (.cells #[.map (some M), (.func (.func 77) #[] #[])] 75)).alloc_ (.cells #[.int .i64 s, .int .i64 y, .int .i64 id] 96))
  have HCa := Lib.hid (((Chg.refl M (M + 1) w).alloc (.cells #[.map (some M), (.func (.func 77) #[] #[])] 75)).alloc (.cells #[.int .i64 s, .int .i64 y, .int .i64 id] 96))
  have HS := Lib.hid hs
  have HY := Lib.hid hy
  have HI := Lib.hid hid
  have HG := Lib.hid (mHandle_wf s y id)
  have HW := Lib.hid (fun W => work_any s y id W hs hy hid)
  have KK : Hid (BoxAt ((w.alloc (.cells #[.map (some M), (.func (.func 77) #[] #[])] 75)).alloc (.cells #[.int .i64 s, .int .i64 y, .int .i64 id] 96)) (w.heap.size + 1) 96 #[.int .i64 s, .int .i64 y, .int .i64 id]) := Lib.hid (by simpa using box_new (w.alloc (.cells #[.map (some M), (.func (.func 77) #[] #[])] 75)) 96 #[.int .i64 s, .int .i64 y, .int .i64 id])
  have KMm := Lib.hid ((box_new w 75 #[.map (some M), (.func (.func 77) #[] #[])]).alloc_ (.cells #[.int .i64 s, .int .i64 y, .int .i64 id] 96))
  have hc := HMa.out
  obtain ⟨D, h1, h2, h3⟩ := hc
  have H1 := Lib.hid h1
  cases hh : Maps.has D (K3 s y id) with
  | true =>
    have HA := Lib.hid (h3 id hid hh)
    have HH := Lib.hid hh
    clear hM hs hy hid h1 h2 h3 hh
    go_enter Try.func79, Try.ntmps79
    go_wp2_with (at_lookup; refine wp_look3_of rfl _ _ _ rfl HU.out M n D rfl H1.out true s y id HH.out rfl HS.out HY.out HI.out ?_; intro v hv)
    go_ret
    have hv2 := hv.out
    rw [HA.out] at hv2
    injection hv2 with hv2
    injection hv2 with _ hv2
    exact ⟨by rw [hv2]; rfl, HMa.out.more (by omega), HCa.out⟩
  | false =>
    have HH := Lib.hid hh
    clear hM hs hy hid h1 h2 h3 hh
    go_enter Try.func79, Try.ntmps79
    go_wp2_with (first | (at_lookup; refine wp_look3_of rfl _ _ _ rfl HU.out M n D rfl H1.out false s y id HH.out rfl HS.out HY.out HI.out ?_; intro v hv; clear hv) | (go_at_call 77; refine (HW.out _).mono ?_; rintro e1 w1 ⟨rfl, hb1⟩; have HM1 := Lib.hid (HMa.out.new hb1); have HC1 := Lib.hid (HCa.out.trans (chg_of_new hb1)); have KM1 := KMm.out.new hb1; have KK1 := KK.out.new hb1; have m0 := KM1.at_ (j := 0) (u := .map (some M)) rfl; have k0 := KK1.at_ (j := 0) (u := .int .i64 s) rfl; have k1 := KK1.at_ (j := 1) (u := .int .i64 y) rfl; have k2 := KK1.at_ (j := 2) (u := .int .i64 id) rfl; clear hb1 KM1 KK1) | (at_mapUpdate; refine wp_put3 rfl _ _ _ _ rfl HU.out M n s y (mHandle s y) rfl HM1.out hn id rfl HS.out HY.out HI.out rfl HG.out ?_; intro w2 hm2 hg2; have HM2 := Lib.hid hm2; have HC2 := Lib.hid (HC1.out.trans (chg_of_grown hg2)); clear hm2 hg2))
    go_ret
    exact ⟨rfl, HM2.out, HC2.out⟩
set_option maxHeartbeats 4000000 in
theorem handle_any (x : TNode) (A : Option Addr) (m c : Nat) (s y : Int) (M n : Nat) (w : World) (hs : (Lit.int .i64 s).wf = true) (hy : (Lit.int .i64 y).wf = true) (hid : (Lit.int .i64 x.f0).wf = true) (hM : MapH w M n s y (mHandle s y)) (hn : n < maxLen) :
    Calls Try.prog 58 #[.agg #[.slice A m c, .int .i64 s, .int .i64 y, .map (some M), (.func (.func 77) #[] #[])], .agg #[.int .i64 x.f0, .int .i64 x.f1, .int .i64 x.f2, .int .i64 x.f3, .int .i64 x.f4]] w (Got s y x.f0 M n w) := by
  have HC := Lib.hid (fun W h => get_any s y x.f0 M n W hs hy hid h hn)
  have HMa := Lib.hid ((hM.alloc_ (.cells #[.slice A m c, .int .i64 s, .int .i64 y, .map (some M), (.func (.func 77) #[] #[])] 77)).alloc_ (.cells #[.int .i64 x.f0, .int .i64 x.f1, .int .i64 x.f2, .int .i64 x.f3, .int .i64 x.f4] 54))
  have HCa := Lib.hid (((Chg.refl M (M + 1) w).alloc (.cells #[.slice A m c, .int .i64 s, .int .i64 y, .map (some M), (.func (.func 77) #[] #[])] 77)).alloc (.cells #[.int .i64 x.f0, .int .i64 x.f1, .int .i64 x.f2, .int .i64 x.f3, .int .i64 x.f4] 54))
  clear hM hs hy hid
  go_enter Try.func58, Try.ntmps58
  go_wp2_with fail
  refine (HC.out _ HMa.out).mono ?_
  rintro e1 w1 ⟨rfl, hM1, hc1⟩
  have HM1 := Lib.hid hM1
  have HC1 := Lib.hid (HCa.out.trans hc1)
  clear hM1 hc1 HC
  generalize hq : mHandle s y x.f0 = q
  have HQ := Lib.hid hq
  clear hq
  go_wp2_with fail
  go_ret
  exact ⟨by rw [HQ.out]; rfl, HM1.out, HC1.out⟩
def hits (s y h : Int) (x : TNode) : Bool := mHandle s y x.f0 == h
/-- The node to which a handle leads. -/
def mFind (l : List TNode) (s y h : Int) : Option TNode := if h < 1 then none else l.find? (hits s y h)
def fId (o : Option TNode) : Int := match o with | some x => x.f0 | none => 0
theorem find_none_step {l : List TNode} {p : TNode → Bool} {k : Nat} {x : TNode} (h : (l.take k).find? p = none) (hz : l[k]? = some x) (hq : p x = false) : (l.take (k + 1)).find? p = none := by
  rw [List.take_add_one, hz, Option.toList_some, List.find?_append, h]; simp [hq]
theorem find_hit {l : List TNode} {p : TNode → Bool} {k : Nat} {x : TNode} (h : (l.take k).find? p = none) (hz : l[k]? = some x) (hq : p x = true) : l.find? p = some x := by
  have e : l = l.take k ++ l.drop k := (List.take_append_drop _ _).symm
  have hd : l.drop k = x :: l.drop (k + 1) := by
    obtain ⟨hk, hx⟩ := List.getElem?_eq_some_iff.1 hz
    rw [List.drop_eq_getElem_cons hk, hx]
  rw [e, List.find?_append, h, hd, List.find?_cons_of_pos hq]; rfl
/-- What 'resolve' answers and leaves. -/
def Resd (l : List TNode) (s y h : Int) (M n m : Nat) (w : World) (e : Ending) (w' : World) : Prop :=
  e = .returned (.tuple #[.int .i64 (fId (mFind l s y h)), .bool (mFind l s y h).isSome]) ∧ MapH w' M (n + m) s y (mHandle s y) ∧ Chg M (M + 1) w w'
set_option maxHeartbeats 8000000 in
theorem resolve_any (l : List TNode) (A : Option Addr) (m c lo hi : Nat) (s y h : Int) (M n : Nat) (w : World) (hs : (Lit.int .i64 s).wf = true) (hy : (Lit.int .i64 y).wf = true) (hm : m ≤ 1048576) (hr : Rd w lo hi 5 A m (cNode l)) (hok : Hid (cNodeOk l)) (hlo : hi ≤ M ∨ M + 1 ≤ lo) (hM : MapH w M n s y (mHandle s y)) (hn : n + m < maxLen) :
    Calls Try.prog 59 #[.agg #[.slice A m c, .int .i64 s, .int .i64 y, .map (some M), (.func (.func 77) #[] #[])], .int .i64 h] w (Resd l s y h M n m w) := by
  have HL := Lib.hid (rd_len TNode.len hr (by decide))
  have HRa := Lib.hid (hr.alloc (.cells #[.slice A m c, .int .i64 s, .int .i64 y, .map (some M), (.func (.func 77) #[] #[])] 77))
  have HMa := Lib.hid (hM.alloc_ (.cells #[.slice A m c, .int .i64 s, .int .i64 y, .map (some M), (.func (.func 77) #[] #[])] 77))
  have HCa := Lib.hid ((Chg.refl M (M + 1) w).alloc (.cells #[.slice A m c, .int .i64 s, .int .i64 y, .map (some M), (.func (.func 77) #[] #[])] 77))
  have KR := Lib.hid (box_new w 77 #[.slice A m c, .int .i64 s, .int .i64 y, .map (some M), (.func (.func 77) #[] #[])])
  have hMl := hM.lt
  have CH := Lib.hid (fun (x : TNode) (n : Nat) W hid h hn => handle_any x A m c s y M n W hs hy hid h hn)
  clear hr hM hs hy
  by_cases h1 : h < 1
  · have HF := Lib.hid (show mFind l s y h = none by unfold mFind; rw [if_pos h1])
    have g : decide (h < 1) = true := by simpa using h1
    go_enter Try.func59, Try.ntmps59
    go_wp2_with fail
    go_ret2
    exact ⟨by rw [HF.out]; rfl, HMa.out.more (by omega), HCa.out⟩
  · have HF := Lib.hid (show mFind l s y h = l.find? (hits s y h) by unfold mFind; rw [if_neg h1])
    have g : decide (h < 1) = false := by simpa using h1
    clear h1
    go_enter Try.func59, Try.ntmps59
    go_wp2_with fail
    generalize hV : w.alloc (.cells #[.slice A m c, .int .i64 s, .int .i64 y, .map (some M), (.func (.func 77) #[] #[])] 77) = V at HRa HMa HCa KR ⊢
    have HVs : Hid (w.heap.size < V.heap.size) := Lib.hid KR.out.lt
    clear hV
    go_loopw [13] (fun v wr => ∃ (k n1 : Nat), v = .int .i64 k ∧ k ≤ m ∧ Hid (n1 ≤ n + k) ∧ Hid (MapH wr M n1 s y (mHandle s y)) ∧ Hid ((l.take k).find? (hits s y h) = none) ∧ Hid (Chg M (M + 1) V wr)) (fun v _ => m - (intOf v).toNat)
    case atStart => exact ⟨0, n, rfl, Nat.zero_le _, Lib.hid (Nat.le_refl _), HMa, Lib.hid rfl, Lib.hid (Chg.refl _ _ _)⟩
    case round =>
      obtain ⟨k, n1, rfl, hk, HN, HMr, HT, HCr⟩ := hrel
      have HRr := Lib.hid (HRa.out.chg HCr.out (by omega))
      have KRr := Lib.hid (KR.out.chg HCr.out (by omega))
      have r0 := KRr.out.at_ (j := 0) (u := .slice A m c) rfl
      have r1 := KRr.out.at_ (j := 1) (u := .int .i64 s) rfl
      have r2 := KRr.out.at_ (j := 2) (u := .int .i64 y) rfl
      have r3 := KRr.out.at_ (j := 3) (u := .map (some M)) rfl
      have r4 := KRr.out.at_ (j := 4) (u := (.func (.func 77) #[] #[])) rfl
      have hRl := KRr.out.lt
      by_cases hlt : k < m
      · obtain ⟨b, off, x, rfl, _, _, hz, hc⟩ := rd_elem TNode.len HRr.out HL.out hlt
        have c0' : wr.cell? ⟨b, off + k * 5, none⟩ = _ := hc 0 _ rfl
        have c1' := hc 1 _ rfl
        have c2' := hc 2 _ rfl
        have c3' := hc 3 _ rfl
        have c4' := hc 4 _ rfl
        have hbl : b < wr.heap.size := World.block_lt_of_cell? wr _ c0'
        have HZ := Lib.hid hz
        have WX := Lib.hid (node_wf hok.out hz).1
        have hn1 : n1 < maxLen := by have := HN.out; omega
        have HCC := Lib.hid (CH.out x n1 (wr.alloc (.cells #[.int .i64 x.f0, .int .i64 x.f1, .int .i64 x.f2, .int .i64 x.f3, .int .i64 x.f4] 54)) WX.out (HMr.out.alloc_ _) hn1)
        have KX := Lib.hid (box_new wr 54 #[.int .i64 x.f0, .int .i64 x.f1, .int .i64 x.f2, .int .i64 x.f3, .int .i64 x.f4])
        have hgl : wr.heap.size ≠ M := by have := HMr.out.lt; omega
        clear hz hc
        generalize hq : mHandle s y x.f0 = q
        have HQ := Lib.hid hq
        by_cases e : q = h
        · have g2 : (q == h) = true := by simpa using e
          have HE := Lib.hid (find_hit HT.out HZ.out (show hits s y h x = true by unfold hits; rw [hq]; exact g2))
          clear hq e
          go_wp2_with fail
          refine HCC.out.mono ?_
          rintro e1 w1 ⟨rfl, hM1, hc1⟩
          rw [HQ.out]
          have HM1 := Lib.hid hM1
          have HC1 := Lib.hid ((HCr.out.alloc (.cells #[.int .i64 x.f0, .int .i64 x.f1, .int .i64 x.f2, .int .i64 x.f3, .int .i64 x.f4] 54)).trans hc1)
          have x0 := (KX.out.chg hc1 (by omega)).at_ (j := 0) (u := .int .i64 x.f0) rfl
          clear hM1 hc1 HCC
          go_wp2_with fail
          go_ret2
          exact ⟨by rw [HF.out, HE.out]; rfl, HM1.out.more (by have := HN.out; omega), HCa.out.trans HC1.out⟩
        · have g2 : (q == h) = false := by simpa using e
          have HE := Lib.hid (find_none_step HT.out HZ.out (show hits s y h x = false by unfold hits; rw [hq]; exact g2))
          clear hq e
          go_wp2_with fail
          refine HCC.out.mono ?_
          rintro e1 w1 ⟨rfl, hM1, hc1⟩
          rw [HQ.out]
          have HM1 := Lib.hid hM1
          have HC1 := Lib.hid ((HCr.out.alloc (.cells #[.int .i64 x.f0, .int .i64 x.f1, .int .i64 x.f2, .int .i64 x.f3, .int .i64 x.f4] 54)).trans hc1)
          clear hM1 hc1 HCC
          go_wp2_with fail
          go_roundw
          case rel => exact ⟨k + 1, n1 + 1, by go_num, by omega, Lib.hid (by have := HN.out; omega), HM1, HE, HC1⟩
          case measure => simp [intOf]; omega
      · obtain rfl : k = m := by omega
        have HE := Lib.hid (show l.find? (hits s y h) = none by have h := HT.out; rwa [List.take_of_length_le (by rw [HL.out]; exact Nat.le_refl _)] at h)
        go_wp2_with fail
        go_ret2
        exact ⟨by rw [HF.out, HE.out]; rfl, HMr.out.more HN.out, HCa.out.trans HCr.out⟩
end Go.Proofs.Ytomoigbhikihfaa
