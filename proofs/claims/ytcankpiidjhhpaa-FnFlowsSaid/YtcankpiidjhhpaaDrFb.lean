/- DrawMayFlow. No condition of its own. -/
import Derived.Test.YtcankpiidjhhpaaDrFa
import Derived.Test.YtcankpiidjhhpaaDrY
import Derived.Deep.Cut
import Derived.Deep.LoopGhost
import Derived.Deep.RegionHeld3
namespace Go.Proofs.Ytcankpiidjhhpaa
open Go Go.ChangeShapes Go.WideShapes Go.ChangeAt Go.RowKit Go.Lib
set_option linter.unusedVariables false
set_option linter.unusedSimpArgs false
set_option maxRecDepth 100000
theorem rd_top {w : World} {lo hi size n : Nat} {A : Option Addr} {xs : List Value} (h : Rd w lo hi size A n xs) (hs : 0 < size) : Rd w lo w.heap.size size A n xs :=
  ⟨h.1, fun hn => by
    obtain ⟨b, off, e, hl, _, hc⟩ := h.2 hn
    have hlt : 0 < xs.length := by rw [h.1]; exact Nat.mul_pos hn hs
    exact ⟨b, off, e, hl, World.block_lt_of_cell? _ _ (hc 0 _ (List.getElem?_eq_getElem hlt)), hc⟩⟩
/-- Flows, an extension, a label and an owner are drawn. -/
def DrawnMF (w : World) (e : Ending) (w' : World) : Prop :=
  ∃ (A : Option Addr) (c : Nat) (l : List TFlow) (x b t : Int), e = .returned (.tuple #[.slice A l.length c, .int .i64 x, .int .i64 b, .int .i64 t]) ∧ l.length ≤ 7 ∧ (∀ y ∈ l, y.fit) ∧ 0 ≤ x ∧ x ≤ 3 ∧ -2 ≤ b ∧ b ≤ 9223372036854775807 ∧ 0 ≤ t ∧ t ≤ 10 ∧ l.length ≤ c ∧ Rd w' w.heap.size w'.heap.size 3 A l.length (cFlow l) ∧ Below w.heap.size w w'
set_option maxHeartbeats 32000000 in
theorem drawMF_any (n cap : Nat) (A : Option Addr) (w : World) (hn : n ≤ 140737488355328) (hb : BytesAt w w.heap.size A n) :
    Calls Try.prog 8 #[.slice A n cap] w (DrawnMF w) := by
  have hn' : n ≤ maxLen := by unfold maxLen; omega
  have HY := Lib.hid hb
  have HB := Lib.hid (Below.refl w.heap.size w)
  clear hb
  go_enter Try.func8, Try.ntmps8
  go_wp2_with fail
  refine Calls.mono (dr_new n cap A w _ w.heap.size (by simp) hn HY.out HB.out) ?_
  rintro e w1 ⟨rfl, hc, hb1⟩
  have HC := Lib.hid hc
  replace HB := Lib.hid (HB.out.trans (hb1.mono (by omega)))
  have l1 : w.heap.size < w1.heap.size := HC.out.lt
  clear hc hb1
  go_wp2_with fail
  refine Calls.mono (flows_any w.heap.size n cap A _ hn' HC.out) ?_
  rintro e w2 ⟨v, l, rfl, hl, hu, ho, hc, hg⟩
  have sz2 : w1.heap.size ≤ w2.heap.size := hg.size
  
  replace HB := Lib.hid (dr_below HB.out (by omega) hg)
  replace HC := Lib.hid hc
  have l2 : w.heap.size < w2.heap.size := HC.out.lt
  clear hc hg
  have HU := Lib.hid hu
  clear hu
  obtain ⟨AG, cG, rfl, hF⟩ := fr_of_own ho
  obtain ⟨hG, hhe⟩ : ∃ x, x = w2.heap.size := ⟨_, rfl⟩
  rw [← hhe] at hF
  have hGl : hG ≤ w2.heap.size := by omega
  clear hhe
  have HF := Lib.hid hF
  clear ho hF
  go_wp2_with fail
  refine Calls.mono (below_any w.heap.size n cap A 3 _ hn' HC.out (by omega) (by omega)) ?_
  rintro e w3 ⟨ye, hea, heb, rfl, hc, hg⟩
  have sz3 : w2.heap.size ≤ w3.heap.size := hg.size
  replace HF := Lib.hid (fr_grownL HF.out hg (by omega))
  replace HB := Lib.hid (dr_below HB.out (by omega) hg)
  replace HC := Lib.hid hc
  have l3 : w.heap.size < w3.heap.size := HC.out.lt
  clear hc hg
  go_wp2_with fail
  refine Calls.mono (small_any w.heap.size n cap A _ hn' HC.out) ?_
  rintro e w4 ⟨x0, hx0, hx1, rfl, hc, hg⟩
  have sz4 : w3.heap.size ≤ w4.heap.size := hg.size
  replace HF := Lib.hid (fr_grownL HF.out hg (by omega))
  replace HB := Lib.hid (dr_below HB.out (by omega) hg)
  replace HC := Lib.hid hc
  have l4 : w.heap.size < w4.heap.size := HC.out.lt
  clear hc hg
  go_wp2_with fail
  refine Calls.mono (once_any w.heap.size n cap A 9 _ hn' HC.out (by omega) (by omega)) ?_
  rintro e w5 ⟨b, rfl, hc, hg⟩
  have sz5 : w4.heap.size ≤ w5.heap.size := hg.size
  replace HF := Lib.hid (fr_grownL HF.out hg (by omega))
  replace HB := Lib.hid (dr_below HB.out (by omega) hg)
  replace HC := Lib.hid hc
  have l5 : w.heap.size < w5.heap.size := HC.out.lt
  clear hc hg
  cases b
  · skip
    have LT := Lib.hid (box_new w5 3 #[.int .i64 1, .int .i64 2, .int .i64 3, .int .i64 4, .int .i64 0, .int .i64 10])
    replace HF := Lib.hid (HF.out.keep fun b h1 h2 h3 => Below.heap_alloc w5 (.cells #[.int .i64 1, .int .i64 2, .int .i64 3, .int .i64 4, .int .i64 0, .int .i64 10] 3) b h3)
    replace HC := Lib.hid (HC.out.new (.cells #[.int .i64 1, .int .i64 2, .int .i64 3, .int .i64 4, .int .i64 0, .int .i64 10] 3))
    replace HB := Lib.hid (HB.out.alloc (by have := HB.out.size; omega) (.cells #[.int .i64 1, .int .i64 2, .int .i64 3, .int .i64 4, .int .i64 0, .int .i64 10] 3))
    have hal : w5.heap.size ≤ (w5.alloc (.cells #[.int .i64 1, .int .i64 2, .int .i64 3, .int .i64 4, .int .i64 0, .int .i64 10] 3)).heap.size := by simp
    have lg0 := HC.out.lt
    go_wp2_with fail
    refine Calls.mono (int_any w.heap.size n cap A [1, 2, 3, 4, 0, 10] w5.heap.size (0) (10) _ hn' HC.out (by omega) LT.out (by decide) (by decide) (by decide)) ?_
    rintro e w6 ⟨t0, hta, htb, rfl, hc, hg⟩
    have sz6 : (w5.alloc (.cells #[.int .i64 1, .int .i64 2, .int .i64 3, .int .i64 4, .int .i64 0, .int .i64 10] 3)).heap.size ≤ w6.heap.size := hg.size
    replace HF := Lib.hid (fr_grownL HF.out hg (by omega))
    replace HB := Lib.hid (dr_below HB.out (by omega) hg)
    replace HC := Lib.hid hc
    have l6 : w.heap.size < w6.heap.size := HC.out.lt
    clear hc hg
    have ek := IntWalk.i64_in (1 + ye) (by omega)
    have hk1 := HF.out.cap
    have HR1 := (rd_top HF.out.rd (by decide)).mono (lo' := w.heap.size) (hi' := w6.heap.size) (by omega) (Nat.le_refl _)
    clear LT
    go_wp2_with fail
    exact bodyPost_ret (v := .tuple #[.slice AG l.length cG, .int .i64 (1 + ye), .int .i64 x0, .int .i64 t0]) (by simp [results, Try.results8, go_sem, ek]) rfl ⟨AG, cG, l, _, _, _, rfl, hl, HU.out, by omega, by omega, by omega, by omega, by omega, by omega, hk1, HR1, HB.out⟩
  · skip
    go_wp2_with fail
    refine Calls.mono (lab_any w.heap.size n cap A _ hn' HC.out) ?_
    rintro e w6 ⟨x1, hx2, hx3, rfl, hc, hg⟩
    have sz6 : w5.heap.size ≤ w6.heap.size := hg.size
    replace HF := Lib.hid (fr_grownL HF.out hg (by omega))
    replace HB := Lib.hid (dr_below HB.out (by omega) hg)
    replace HC := Lib.hid hc
    have l6 : w.heap.size < w6.heap.size := HC.out.lt
    clear hc hg
    have LT := Lib.hid (box_new w6 3 #[.int .i64 1, .int .i64 2, .int .i64 3, .int .i64 4, .int .i64 0, .int .i64 10])
    replace HF := Lib.hid (HF.out.keep fun b h1 h2 h3 => Below.heap_alloc w6 (.cells #[.int .i64 1, .int .i64 2, .int .i64 3, .int .i64 4, .int .i64 0, .int .i64 10] 3) b h3)
    replace HC := Lib.hid (HC.out.new (.cells #[.int .i64 1, .int .i64 2, .int .i64 3, .int .i64 4, .int .i64 0, .int .i64 10] 3))
    replace HB := Lib.hid (HB.out.alloc (by have := HB.out.size; omega) (.cells #[.int .i64 1, .int .i64 2, .int .i64 3, .int .i64 4, .int .i64 0, .int .i64 10] 3))
    have hal : w6.heap.size ≤ (w6.alloc (.cells #[.int .i64 1, .int .i64 2, .int .i64 3, .int .i64 4, .int .i64 0, .int .i64 10] 3)).heap.size := by simp
    have lg0 := HC.out.lt
    go_wp2_with fail
    refine Calls.mono (int_any w.heap.size n cap A [1, 2, 3, 4, 0, 10] w6.heap.size (0) (10) _ hn' HC.out (by omega) LT.out (by decide) (by decide) (by decide)) ?_
    rintro e w7 ⟨t0, hta, htb, rfl, hc, hg⟩
    have sz7 : (w6.alloc (.cells #[.int .i64 1, .int .i64 2, .int .i64 3, .int .i64 4, .int .i64 0, .int .i64 10] 3)).heap.size ≤ w7.heap.size := hg.size
    replace HF := Lib.hid (fr_grownL HF.out hg (by omega))
    replace HB := Lib.hid (dr_below HB.out (by omega) hg)
    replace HC := Lib.hid hc
    have l7 : w.heap.size < w7.heap.size := HC.out.lt
    clear hc hg
    have ek := IntWalk.i64_in (1 + ye) (by omega)
    have hk1 := HF.out.cap
    have HR1 := (rd_top HF.out.rd (by decide)).mono (lo' := w.heap.size) (hi' := w7.heap.size) (by omega) (Nat.le_refl _)
    clear LT
    go_wp2_with fail
    exact bodyPost_ret (v := .tuple #[.slice AG l.length cG, .int .i64 (1 + ye), .int .i64 x1, .int .i64 t0]) (by simp [results, Try.results8, go_sem, ek]) rfl ⟨AG, cG, l, _, _, _, rfl, hl, HU.out, by omega, by omega, by omega, by omega, by omega, by omega, hk1, HR1, HB.out⟩
/-- Two lists of flows are drawn. -/
def DrawnFW (w : World) (e : Ending) (w' : World) : Prop :=
  ∃ (A : Option Addr) (c : Nat) (x : List TFlow) (A1 : Option Addr) (c1 : Nat) (y : List TFlow), e = .returned (.tuple #[.slice A x.length c, .slice A1 y.length c1]) ∧ x.length ≤ 8 ∧ (∀ z ∈ x, z.fit) ∧ y.length ≤ 7 ∧ (∀ z ∈ y, z.fit) ∧ x.length ≤ c ∧ y.length ≤ c1 ∧ Rd w' w.heap.size w'.heap.size 3 A x.length (cFlow x) ∧ Rd w' w.heap.size w'.heap.size 3 A1 y.length (cFlow y) ∧ Below w.heap.size w w'
set_option maxHeartbeats 32000000 in
theorem drawFW_any (n cap : Nat) (A : Option Addr) (w : World) (hn : n ≤ 140737488355328) (hb : BytesAt w w.heap.size A n) :
    Calls Try.prog 17 #[.slice A n cap] w (DrawnFW w) := by
  have hn' : n ≤ maxLen := by unfold maxLen; omega
  have HY := Lib.hid hb
  have HB := Lib.hid (Below.refl w.heap.size w)
  clear hb
  go_enter Try.func17, Try.ntmps17
  go_wp2_with fail
  refine Calls.mono (dr_new n cap A w _ w.heap.size (by simp) hn HY.out HB.out) ?_
  rintro e w1 ⟨rfl, hc, hb1⟩
  have HC := Lib.hid hc
  replace HB := Lib.hid (HB.out.trans (hb1.mono (by omega)))
  have l1 : w.heap.size < w1.heap.size := HC.out.lt
  clear hc hb1
  go_wp2_with fail
  refine Calls.mono (flows_any w.heap.size n cap A _ hn' HC.out) ?_
  rintro e w2 ⟨v, l, rfl, hl, hu, ho, hc, hg⟩
  have sz2 : w1.heap.size ≤ w2.heap.size := hg.size
  
  replace HB := Lib.hid (dr_below HB.out (by omega) hg)
  replace HC := Lib.hid hc
  have l2 : w.heap.size < w2.heap.size := HC.out.lt
  clear hc hg
  have HU := Lib.hid hu
  clear hu
  obtain ⟨AG, cG, rfl, hF⟩ := fr_of_own ho
  obtain ⟨hG, hhe⟩ : ∃ x, x = w2.heap.size := ⟨_, rfl⟩
  rw [← hhe] at hF
  have hGl : hG ≤ w2.heap.size := by omega
  clear hhe
  have HF := Lib.hid hF
  clear ho hF
  have HO := Lib.hid (World.ownsRow_lit (e := 87) (size := 3) w2 #[] 0 (Nat.le_refl _) (by unfold maxLen; omega) rfl)
  replace HF := Lib.hid (HF.out.keep fun b h1 h2 h3 => Below.heap_alloc w2 (.cells #[] 87) b h3)
  replace HC := Lib.hid (HC.out.new (.cells #[] 87))
  replace HB := Lib.hid (HB.out.alloc (by omega) (.cells #[] 87))
  go_wp2_with fail
  go_loopg [6, 7] l.length (fun gg u i wr => ∃ (k : Nat) (m : List TFlow), k ≤ l.length ∧ l.length - k ≤ gg ∧ m.length ≤ k ∧ Hid (∀ x ∈ m, TFlow.fit x) ∧ i = .int .i64 k ∧ Hid (wr.ownsRow w2.heap.size 87 3 u m.length (m.flatMap TFlow.cells)) ∧ Hid (Fr wr w1.heap.size hG 87 3 AG l.length cG (cFlow l)) ∧ Hid (Cur wr w.heap.size A n cap) ∧ Hid (Below w.heap.size w wr) ∧ w2.heap.size ≤ wr.heap.size)
  case atStart => exact ⟨0, [], Nat.zero_le _, by omega, Nat.le_refl _, Lib.hid (fun _ h => by cases h), rfl, HO, HF, HC, HB, by simp⟩
  case round =>
    clear HO HF HC HB
    obtain ⟨k, m, hk, hgk, hmk, HM, rfl, HO, HF, HC, HB, hsr⟩ := hrel
    have lC : w.heap.size < wr.heap.size := HC.out.lt
    by_cases hlt : k < l.length
    · have hlti : (k : Int) < (l.length : Int) := by omega
      go_wp2_with fail
      refine Calls.mono (once_any w.heap.size n cap A 2 _ hn' HC.out (by omega) (by omega)) ?_
      rintro e w5 ⟨b, rfl, hc, hg⟩
      replace HO := Lib.hid (dr_own HO.out (by omega) hg)
      replace HF := Lib.hid (fr_grownL HF.out hg (by omega))
      replace HB := Lib.hid (dr_below HB.out (by omega) hg)
      replace HC := Lib.hid hc
      have hgw2 : wr.heap.size ≤ w5.heap.size := hg.size
      clear hc hg
      cases b with
      | false =>
        go_wp2_with fail
        go_roundg (l.length - (k + 1))
        case measure => omega
        case rel => exact ⟨k + 1, m, by omega, by omega, by omega, HM, by go_num, HO, HF, HC, HB, by omega⟩
      | true =>
        obtain ⟨b1, off, z, hAG, hb1, hb2, hz, hcc⟩ := rd_elem TFlow.len HF.out.rd rfl hlt
        subst hAG
        have HZF := Lib.hid (HU.out z (List.mem_of_getElem? hz))
        have e0 := hcc 0 _ rfl
        have e1 := hcc 1 _ rfl
        have e2 := hcc 2 _ rfl
        simp only [Nat.add_zero] at e0
        clear hcc hz
        have HX := Lib.hid (show m.flatMap TFlow.cells ++ (#[.int .i64 z.f0, .int .i64 z.f1, .int .i64 z.f2] : Array Value).toList = (m ++ [z]).flatMap TFlow.cells by simp [List.flatMap_append, TFlow.cells])
        have HXB := Lib.hid (show ∀ y ∈ m ++ [z], TFlow.fit y from fun y hy => by
          simp only [List.mem_append, List.mem_singleton] at hy
          rcases hy with hy | rfl
          · exact HM.out y hy
          · exact HZF.out)
        go_wp2_with (at_builtin; refine wp_app_lit rfl _ _ _ rfl w2.heap.size 87 (.agg #[.int .i64 0, .int .i64 0, .int .i64 0]) 3 24 Try.underlying24 infoFlow rfl (by decide) _ _ _ rfl HO.out #[.int .i64 z.f0, .int .i64 z.f1, .int .i64 z.f2] 1 1 _ rfl (by simp) rfl (onesFlow z) (by unfold maxLen; omega) (by omega) (by omega) ?_; intro v1 w6 ho2 hb2; have HO3 := Lib.hid ho2; have HB3 := Lib.hid hb2; clear ho2 hb2)
        go_roundg (l.length - (k + 1))
        case measure => omega
        case rel => exact ⟨k + 1, m ++ [z], by omega, by omega, by simp; omega, HXB, by go_num, Lib.hid (by rw [← HX.out]; simpa using HO3.out), Lib.hid (HF.out.keep fun b h1 h2 h3 => HB3.out.block b (by omega)), Lib.hid (dr_cur_low HC.out (by omega) HB3.out), Lib.hid (HB.out.trans (HB3.out.mono (by omega))), by have := HB3.out.size; omega⟩
    · obtain rfl : k = l.length := by omega
      go_wp2_with fail
      refine Calls.mono (once_any w.heap.size n cap A 4 _ hn' HC.out (by omega) (by omega)) ?_
      rintro e w5 ⟨b, rfl, hc, hg⟩
      have hgw5 : wr.heap.size ≤ w5.heap.size := hg.size
      replace HO := Lib.hid (dr_own HO.out (by omega) hg)
      replace HF := Lib.hid (fr_grownL HF.out hg (by omega))
      replace HB := Lib.hid (dr_below HB.out (by omega) hg)
      replace HC := Lib.hid hc
      clear hc hg
      cases b with
      | false =>
        obtain ⟨A2, c2, rfl, hF2⟩ := fr_of_own HO.out
        have hk1 := hF2.cap
        have hk2 := HF.out.cap
        have HR1 := hF2.rd.mono (lo' := w.heap.size) (hi' := w5.heap.size) (by omega) (Nat.le_refl _)
        have HR2 := HF.out.rd.mono (lo' := w.heap.size) (hi' := w5.heap.size) (by omega) (by omega)
        clear hF2
        go_wp2_with fail
        go_ret2
        exact ⟨A2, c2, m, AG, cG, l, rfl, by omega, HM.out, hl, HU.out, hk1, hk2, HR1, HR2, HB.out⟩
      | true =>
        go_wp2_with fail
        refine Calls.mono (flow_any w.heap.size n cap A _ hn' HC.out) ?_
        rintro e w7 ⟨y, hy, rfl, hc, hg⟩
        have hgw7 : w5.heap.size ≤ w7.heap.size := hg.size
        replace HO := Lib.hid (dr_own HO.out (by omega) hg)
        replace HF := Lib.hid (fr_grownL HF.out hg (by omega))
        replace HB := Lib.hid (dr_below HB.out (by omega) hg)
        clear hc hg HC
        have HX := Lib.hid (show m.flatMap TFlow.cells ++ (#[.int .i64 y.f0, .int .i64 y.f1, .int .i64 y.f2] : Array Value).toList = (m ++ [y]).flatMap TFlow.cells by simp [List.flatMap_append, TFlow.cells])
        replace HM := Lib.hid (show ∀ z ∈ m ++ [y], TFlow.fit z from fun z hz => by
          simp only [List.mem_append, List.mem_singleton] at hz
          rcases hz with hz | rfl
          · exact HM.out z hz
          · exact hy)
        clear hy
        go_wp2_with (at_builtin; refine wp_app_lit rfl _ _ _ rfl w2.heap.size 87 (.agg #[.int .i64 0, .int .i64 0, .int .i64 0]) 3 24 Try.underlying24 infoFlow rfl (by decide) _ _ _ rfl HO.out #[.int .i64 y.f0, .int .i64 y.f1, .int .i64 y.f2] 1 1 _ rfl (by simp) rfl (onesFlow y) (by unfold maxLen; omega) (by omega) (by omega) ?_; intro v1 w6 ho2 hb2; have HO3 := Lib.hid ho2; have HB3 := Lib.hid hb2; clear ho2 hb2)
        have hgw6 : w7.heap.size ≤ w6.heap.size := HB3.out.size
        replace HF := Lib.hid (HF.out.keep fun b h1 h2 h3 => HB3.out.block b (by omega))
        replace HB := Lib.hid (HB.out.trans (HB3.out.mono (by omega)))
        replace HO := Lib.hid (show w6.ownsRow w2.heap.size 87 3 v1 (m ++ [y]).length ((m ++ [y]).flatMap TFlow.cells) by rw [← HX.out]; simpa using HO3.out)
        clear HO3 HB3 HX
        obtain ⟨A2, c2, rfl, hF2⟩ := fr_of_own HO.out
        have hk1 := hF2.cap
        have hk2 := HF.out.cap
        have HR1 := hF2.rd.mono (lo' := w.heap.size) (hi' := w6.heap.size) (by omega) (Nat.le_refl _)
        have HR2 := HF.out.rd.mono (lo' := w.heap.size) (hi' := w6.heap.size) (by omega) (by omega)
        clear hF2
        go_wp2_with fail
        go_ret2
        exact ⟨A2, c2, (m ++ [y]), AG, cG, l, rfl, by simp; omega, HM.out, hl, HU.out, hk1, hk2, HR1, HR2, HB.out⟩
end Go.Proofs.Ytcankpiidjhhpaa
