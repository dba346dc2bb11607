/- DrawDecideRule. No condition of its own. -/
import Derived.Test.YtfceddgacefejaaDrR
import Derived.Test.YtfceddgacefejaaDrT
import Derived.Test.YtfceddgacefejaaFun
import Derived.Test.YtfceddgacefejaaClr
import Derived.Deep.MidRow
import Derived.Lib.LazyBuf
import Derived.Deep.Cut
import Derived.Deep.RegionHeld3
namespace Go.Proofs.Ytfceddgacefejaa
open Go Go.ChangeShapes Go.WideShapes Go.ChangeAt Go.RowKit Go.Lib
set_option linter.unusedVariables false
set_option linter.unusedSimpArgs false
set_option maxRecDepth 100000
/-- What stays in a drawn region that ends a draw, with a list of the draw's own as it lies. -/
def DatF (w : World) (g : Nat) (A : Option Addr) (n cap : Nat) (rs : List (Nat × TypeId × Nat)) (lo hi : Nat) (E : TypeId) (z : Nat) (A' : Option Addr) (m c : Nat) (xs : List Value) (W : World) : Prop :=
  DatT w g A n cap rs W ∧ Fr W lo hi E z A' m c xs ∧ g < lo
section
variable {w W W1 : World} {g n cap lo hi z m c : Nat} {A A' : Option Addr} {rs : List (Nat × TypeId × Nat)} {E : TypeId} {xs : List Value}
theorem fr_grownF {w w1 : World} {lo hi z m c g : Nat} {E : TypeId} {A : Option Addr} {xs : List Value} (h : Fr w lo hi E z A m c xs) (hg : w.grownBy w1 (some g)) (hl : g < lo) : Fr w1 lo hi E z A m c xs :=
  h.keep fun b h1 _ h3 => hg.block b h3 (by intro e; injection e; omega)
theorem DatF.cur (h : DatF w g A n cap rs lo hi E z A' m c xs W) (hb : BytesAt w w.heap.size A n) (hg : w.heap.size ≤ g) : Cur W g A n cap := h.1.cur hb hg
theorem DatF.call (h : DatF w g A n cap rs lo hi E z A' m c xs W) (hc : Cur W1 g A n cap) (hg : W.grownBy W1 (some g)) (hr : ∀ r ∈ rs, r.1 ≠ g) (hl : w.heap.size ≤ g) : DatF w g A n cap rs lo hi E z A' m c xs W1 :=
  ⟨h.1.call hc hg hr hl, fr_grownF h.2.1 hg h.2.2, h.2.2⟩
theorem DatF.row (h : DatF w g A n cap rs lo hi E z A' m c xs W) (b : Nat) (hb : b < g) (hl : w.heap.size ≤ b) (cs : Array Value) (hsz : ∀ r ∈ rs, r.1 = b → cs.size = r.2.2) : DatF w g A n cap rs lo hi E z A' m c xs (W.setRow b cs) :=
  ⟨h.1.row b (by omega) hl cs hsz, h.2.1.keep (fun k h1 _ _ => setRow_other W b k cs (by have := h.2.2; omega)), h.2.2⟩
theorem DatF.mk_ (ho : Fr W lo hi E z A' m c xs) (hB : g < lo) (hb : Below w.heap.size w W) (hc : Cur W g A n cap) (hr : ∀ r ∈ rs, ∃ cs : Array Value, cs.size = r.2.2 ∧ BoxAt W r.1 r.2.1 cs) : DatF w g A n cap rs lo hi E z A' m c xs W :=
  ⟨DatT.mk_ hb hc hr, ho, hB⟩
theorem DatF.drw (h : DatF w g A n cap rs lo hi E z A' m c xs W) : DatF w g A n cap rs lo hi E z A' m c xs W.drew := ⟨h.1.drw, h.2.1.keep (fun _ _ _ _ => rfl), h.2.2⟩
theorem DatF.al (h : DatF w g A n cap rs lo hi E z A' m c xs W) (o : Obj) : DatF w g A n cap rs lo hi E z A' m c xs (W.alloc o) := ⟨h.1.al o, h.2.1.keep (fun b _ _ h3 => Below.heap_alloc W o b h3), h.2.2⟩
end
/-- A list of rules and a request are drawn. -/
def DrawnDE (w : World) (e : Ending) (w' : World) : Prop :=
  ∃ (A : Option Addr) (c : Nat) (l : List TRule) (q : TRequest), e = .returned (.tuple #[.slice A l.length c, .agg #[.int .i64 q.f0, .int .i64 q.f1, .int .i64 q.f2]]) ∧ l.length ≤ 8 ∧ (∀ y ∈ l, y.fit) ∧ q.fit ∧ Rd w' w.heap.size w'.heap.size 8 A l.length (cRule l) ∧ Below w.heap.size w w'
set_option maxHeartbeats 32000000 in
theorem drawDE_any (n cap : Nat) (A : Option Addr) (w : World) (hn : n ≤ 140737488355328) (hb : BytesAt w w.heap.size A n) :
    Calls Try.prog 34 #[.slice A n cap] w (DrawnDE w) := by
  have hn' : n ≤ maxLen := by unfold maxLen; omega
  have HY := Lib.hid hb
  have R0 := Lib.hid (show BoxAt (w.alloc (.cells #[.int .i64 0, .int .i64 0, .int .i64 0] 57)) w.heap.size 57 #[.int .i64 0, .int .i64 0, .int .i64 0] from by simpa using box_new w 57 #[.int .i64 0, .int .i64 0, .int .i64 0])
  have HB := Lib.hid ((Below.refl w.heap.size w).alloc (by first | exact Nat.le_refl _ | (simp; done) | (simp; omega)) (.cells #[.int .i64 0, .int .i64 0, .int .i64 0] 57))
  clear hb
  go_enter Try.func34, Try.ntmps34
  go_wp2_with fail
  refine Calls.mono (dr_new n cap A w _ (w.heap.size + 1) (by simp) hn HY.out HB.out) ?_
  rintro e w1 ⟨rfl, hc, hb1⟩
  have HC := Lib.hid hc
  replace R0 := Lib.hid (dr_box_low R0.out hb1 (by omega))
  replace HB := Lib.hid (HB.out.trans (hb1.mono (by omega)))
  have l1 : (w.heap.size + 1) < w1.heap.size := HC.out.lt
  clear hc hb1
  go_wp2_with fail
  refine Calls.mono (rules_any (w.heap.size + 1) n cap A _ hn' HC.out) ?_
  rintro e w2 ⟨v, l, rfl, hl, hu, ho, hc, hg⟩
  replace R0 := Lib.hid (R0.out.grown hg (by omega))
  replace HB := Lib.hid (dr_below HB.out (by omega) hg)
  replace HC := Lib.hid hc
  have l2 : (w.heap.size + 1) < w2.heap.size := HC.out.lt
  clear hc hg
  have HU := Lib.hid hu
  obtain ⟨A', c', rfl, hF⟩ := fr_of_own ho
  obtain ⟨hh, hhe⟩ : ∃ x, x = w2.heap.size := ⟨_, rfl⟩
  rw [← hhe] at hF
  have hhl : hh ≤ w2.heap.size := by omega
  clear hhe
  have HF := Lib.hid hF
  clear ho hu hF
  by_cases h0 : 0 < l.length
  · skip
    have g0 : decide ((0 : Int) < (l.length : Int)) = true := by first | exact decide_eq_true (by omega) | exact decide_eq_false (by omega)
    have g1 : decide ((l.length : Int) > 0) = true := by first | exact decide_eq_true (by omega) | exact decide_eq_false (by omega)
    go_wp2_with fail
    refine Calls.mono (once_any (w.heap.size + 1) n cap A 4 _ hn' HC.out (by omega) (by omega)) ?_
    rintro e w3 ⟨b, rfl, hc, hg⟩
    have sz3 : w2.heap.size ≤ w3.heap.size := hg.size
    replace HF := Lib.hid (fr_grownF HF.out hg (by omega))
    replace R0 := Lib.hid (R0.out.grown hg (by omega))
    replace HB := Lib.hid (dr_below HB.out (by omega) hg)
    replace HC := Lib.hid hc
    have l3 : (w.heap.size + 1) < w3.heap.size := HC.out.lt
    clear hc hg
    cases b
    · skip
      go_wp2_with fail
      refine Calls.mono (req_any (w.heap.size + 1) n cap A _ hn' HC.out) ?_
      rintro e w4 ⟨q, hq, rfl, hc, hg⟩
      have sz4 : w3.heap.size ≤ w4.heap.size := hg.size
      replace HF := Lib.hid (fr_grownF HF.out hg (by omega))
      replace R0 := Lib.hid (R0.out.grown hg (by omega))
      replace HB := Lib.hid (dr_below HB.out (by omega) hg)
      replace HC := Lib.hid hc
      have l4 : (w.heap.size + 1) < w4.heap.size := HC.out.lt
      clear hc hg
      obtain ⟨x9, hx⟩ : ∃ X, X = World.setRow w4 w.heap.size #[.int .i64 q.f0, .int .i64 q.f1, .int .i64 q.f2] := ⟨_, rfl⟩
      have HX9 := Lib.hid hx
      have OLD9 := R0
      replace R0 := Lib.hid (show BoxAt x9 w.heap.size 57 #[.int .i64 q.f0, .int .i64 q.f1, .int .i64 q.f2] by rw [hx]; exact box_row OLD9.out)
      have hszx : w4.heap.size = x9.heap.size := by rw [hx]; simp
      have szh : hh ≤ w4.heap.size := by omega
      have HR9 := Lib.hid (show Rd x9 w.heap.size x9.heap.size 8 A' l.length (cRule l) by rw [hx]; exact (HF.out.keep fun b h1 _ _ => setRow_other _ _ b _ (by omega)).rd.mono (by omega) (by simp; omega))
      replace HB := Lib.hid (show Below w.heap.size w x9 by rw [hx]; exact below_setRow HB.out (Nat.le_refl _) _)
      clear hx HF HC
      go_wp2_with (refine wpList_store_row rfl 57 _ _ rfl w.heap.size #[.int .i64 q.f0, .int .i64 q.f1, .int .i64 q.f2] rfl rfl 57 _ OLD9.out (by kernel_rfl) (by kernel_rfl) (by kernel_rfl) ?_; rw [← HX9.out]; clear HX9 OLD9)
      have r0 := R0.out.at_ (j := 0) rfl
      have r1 := R0.out.at_ (j := 1) rfl
      have r2 := R0.out.at_ (j := 2) rfl
      exact bodyPost_ret (v := .tuple #[.slice A' l.length c', .agg #[.int .i64 q.f0, .int .i64 q.f1, .int .i64 q.f2]]) (by simp [results, Try.results34, go_sem, r0, r1, r2]) rfl ⟨_, _, l, q, rfl, by (try simp only [List.length_cons] at hl ⊢); omega, HU.out, hq, HR9.out, HB.out⟩
    · skip
      go_wp2_with fail
      refine Calls.mono (rulea_any (w.heap.size + 1) n cap A _ hn' HC.out) ?_
      rintro e w4 ⟨x, hx, rfl, hc, hg⟩
      have sz4 : w3.heap.size ≤ w4.heap.size := hg.size
      replace HF := Lib.hid (fr_grownF HF.out hg (by omega))
      replace R0 := Lib.hid (R0.out.grown hg (by omega))
      replace HB := Lib.hid (dr_below HB.out (by omega) hg)
      replace HC := Lib.hid hc
      have l4 : (w.heap.size + 1) < w4.heap.size := HC.out.lt
      clear hc hg
      obtain ⟨gb, cc, rfl, h1, h2, h3, rfl, h5, f, hrow, hf⟩ := HF.out.row h0
      obtain ⟨y, r, rfl⟩ : ∃ y r, l = y :: r := by
        cases l with
        | nil => exact absurd h0 (by simp)
        | cons y r => exact ⟨y, r, rfl⟩
      have hl3 : r.length + 1 ≤ c' := h3
      have HTh := Lib.hid (there_row (o := 0) (k := 8) hrow (by omega))
      have HRow := Lib.hid (rowIs_setCells [.int .i64 x.f0, .int .i64 x.f1, .int .i64 x.f2, .int .i64 x.f3, .int .i64 x.f4, .int .i64 x.f5, .int .i64 x.f6, .int .i64 x.f7] 0 w4 f hrow)
      have hgb : (w.heap.size + 1) < gb := by omega
      have hgb2 : w1.heap.size ≤ gb := h1
      have HFN := Lib.hid (fr_of_rowcap (lo := w1.heap.size) (hi := w4.heap.size) (n := (x :: r).length) (xs := cRule (x :: r)) HRow.out h1 (by omega) h3 h5 (flat_len TRule.len _) (fun t u hu => by
        by_cases ht : t < 8
        · rw [if_pos (by constructor <;> simp <;> omega)]
          have : (cRule (x :: r))[t]? = (TRule.cells x)[t]? := by
            simp only [cRule, List.flatMap_cons]
            exact List.getElem?_append_left (by rw [TRule.len]; exact ht)
          rw [this] at hu
          have e0 : t - 0 = t := rfl
          rw [e0]
          change ((TRule.cells x)[t]?).getD default = u
          rw [hu]; rfl
        · rw [if_neg (by simp; omega)]
          refine hf t u ?_
          rw [← hu]
          simp only [cRule, List.flatMap_cons]
          rw [List.getElem?_append_right (by rw [TRule.len]; omega), List.getElem?_append_right (by rw [TRule.len]; omega), TRule.len, TRule.len]))
      have hbX := below_setCells (B := (w.heap.size + 1) + 1) (b := gb) (by omega) [.int .i64 x.f0, .int .i64 x.f1, .int .i64 x.f2, .int .i64 x.f3, .int .i64 x.f4, .int .i64 x.f5, .int .i64 x.f6, .int .i64 x.f7] 0 w4 (Below.refl _ _)
      have HBN := Lib.hid (below_setCells (B := w.heap.size) (b := gb) (by omega) [.int .i64 x.f0, .int .i64 x.f1, .int .i64 x.f2, .int .i64 x.f3, .int .i64 x.f4, .int .i64 x.f5, .int .i64 x.f6, .int .i64 x.f7] 0 w4 HB.out)
      have HCN := Lib.hid (dr_cur_low HC.out (by omega) hbX)
      replace R0 := Lib.hid (dr_box_low R0.out hbX (by omega))
      have hzs : (World.setCells w4 gb 0 [.int .i64 x.f0, .int .i64 x.f1, .int .i64 x.f2, .int .i64 x.f3, .int .i64 x.f4, .int .i64 x.f5, .int .i64 x.f6, .int .i64 x.f7]).heap.size = w4.heap.size := by simp [World.setCells, World.setCell]
      obtain ⟨x5, hx5⟩ : ∃ X, X = World.setCells w4 gb 0 [.int .i64 x.f0, .int .i64 x.f1, .int .i64 x.f2, .int .i64 x.f3, .int .i64 x.f4, .int .i64 x.f5, .int .i64 x.f6, .int .i64 x.f7] := ⟨_, rfl⟩
      have HX5 := Lib.hid hx5
      rw [← hx5] at HFN HBN HCN hzs R0
      have HUN := Lib.hid (show ∀ z ∈ x :: r, TRule.fit z from fun z hz => by
        rcases List.mem_cons.1 hz with rfl | hz
        · exact hx
        · exact HU.out z (List.mem_cons_of_mem _ hz))
      clear hrow hf HRow HF HU HC HB hx5 hbX
      have HF := HFN
      have HB := HBN
      have HC := HCN
      have HU := HUN
      clear HFN HBN HCN HUN
      go_wp2_with (refine wpList_store_mid rfl _ (.tmp 20) (.tmp 19) rfl gb 0 #[.int .i64 x.f0, .int .i64 x.f1, .int .i64 x.f2, .int .i64 x.f3, .int .i64 x.f4, .int .i64 x.f5, .int .i64 x.f6, .int .i64 x.f7] rfl rfl HTh.out (by kernel_rfl) (by simp [Value.oneCell']) ?_; change wpList _ _ _ _ _ (World.setCells w4 gb 0 [.int .i64 x.f0, .int .i64 x.f1, .int .i64 x.f2, .int .i64 x.f3, .int .i64 x.f4, .int .i64 x.f5, .int .i64 x.f6, .int .i64 x.f7]); rw [← HX5.out]; clear HX5)
      refine Calls.mono (req_any (w.heap.size + 1) n cap A _ hn' HC.out) ?_
      rintro e w5 ⟨q, hq, rfl, hc, hg⟩
      have sz5 : x5.heap.size ≤ w5.heap.size := hg.size
      replace HF := Lib.hid (fr_grownF HF.out hg (by omega))
      replace R0 := Lib.hid (R0.out.grown hg (by omega))
      replace HB := Lib.hid (dr_below HB.out (by omega) hg)
      replace HC := Lib.hid hc
      have l5 : (w.heap.size + 1) < w5.heap.size := HC.out.lt
      clear hc hg
      obtain ⟨x9, hx⟩ : ∃ X, X = World.setRow w5 w.heap.size #[.int .i64 q.f0, .int .i64 q.f1, .int .i64 q.f2] := ⟨_, rfl⟩
      have HX9 := Lib.hid hx
      have OLD9 := R0
      replace R0 := Lib.hid (show BoxAt x9 w.heap.size 57 #[.int .i64 q.f0, .int .i64 q.f1, .int .i64 q.f2] by rw [hx]; exact box_row OLD9.out)
      have hszx : w5.heap.size = x9.heap.size := by rw [hx]; simp
      have szh : w4.heap.size ≤ w5.heap.size := by omega
      have HR9 := Lib.hid (show Rd x9 w.heap.size x9.heap.size 8 (some ⟨gb, 0, none⟩) (x :: r).length (cRule (x :: r)) by rw [hx]; exact (HF.out.keep fun b h1 _ _ => setRow_other _ _ b _ (by omega)).rd.mono (by omega) (by simp; omega))
      replace HB := Lib.hid (show Below w.heap.size w x9 by rw [hx]; exact below_setRow HB.out (Nat.le_refl _) _)
      clear hx HF HC
      go_wp2_with (refine wpList_store_row rfl 57 _ _ rfl w.heap.size #[.int .i64 q.f0, .int .i64 q.f1, .int .i64 q.f2] rfl rfl 57 _ OLD9.out (by kernel_rfl) (by kernel_rfl) (by kernel_rfl) ?_; rw [← HX9.out]; clear HX9 OLD9)
      have r0 := R0.out.at_ (j := 0) rfl
      have r1 := R0.out.at_ (j := 1) rfl
      have r2 := R0.out.at_ (j := 2) rfl
      exact bodyPost_ret (v := .tuple #[.slice (some ⟨gb, 0, none⟩) (x :: r).length c', .agg #[.int .i64 q.f0, .int .i64 q.f1, .int .i64 q.f2]]) (by simp [results, Try.results34, go_sem, r0, r1, r2]) rfl ⟨_, _, (x :: r), q, rfl, by (try simp only [List.length_cons] at hl ⊢); omega, HU.out, hq, HR9.out, HB.out⟩
  · skip
    have g0 : decide ((0 : Int) < (l.length : Int)) = false := by first | exact decide_eq_true (by omega) | exact decide_eq_false (by omega)
    have g1 : decide ((l.length : Int) > 0) = false := by first | exact decide_eq_true (by omega) | exact decide_eq_false (by omega)
    go_wp2_with fail
    refine Calls.mono (req_any (w.heap.size + 1) n cap A _ hn' HC.out) ?_
    rintro e w3 ⟨q, hq, rfl, hc, hg⟩
    have sz3 : w2.heap.size ≤ w3.heap.size := hg.size
    replace HF := Lib.hid (fr_grownF HF.out hg (by omega))
    replace R0 := Lib.hid (R0.out.grown hg (by omega))
    replace HB := Lib.hid (dr_below HB.out (by omega) hg)
    replace HC := Lib.hid hc
    have l3 : (w.heap.size + 1) < w3.heap.size := HC.out.lt
    clear hc hg
    obtain ⟨x9, hx⟩ : ∃ X, X = World.setRow w3 w.heap.size #[.int .i64 q.f0, .int .i64 q.f1, .int .i64 q.f2] := ⟨_, rfl⟩
    have HX9 := Lib.hid hx
    have OLD9 := R0
    replace R0 := Lib.hid (show BoxAt x9 w.heap.size 57 #[.int .i64 q.f0, .int .i64 q.f1, .int .i64 q.f2] by rw [hx]; exact box_row OLD9.out)
    have hszx : w3.heap.size = x9.heap.size := by rw [hx]; simp
    have szh : hh ≤ w3.heap.size := by omega
    have HR9 := Lib.hid (show Rd x9 w.heap.size x9.heap.size 8 A' l.length (cRule l) by rw [hx]; exact (HF.out.keep fun b h1 _ _ => setRow_other _ _ b _ (by omega)).rd.mono (by omega) (by simp; omega))
    replace HB := Lib.hid (show Below w.heap.size w x9 by rw [hx]; exact below_setRow HB.out (Nat.le_refl _) _)
    clear hx HF HC
    go_wp2_with (refine wpList_store_row rfl 57 _ _ rfl w.heap.size #[.int .i64 q.f0, .int .i64 q.f1, .int .i64 q.f2] rfl rfl 57 _ OLD9.out (by kernel_rfl) (by kernel_rfl) (by kernel_rfl) ?_; rw [← HX9.out]; clear HX9 OLD9)
    have r0 := R0.out.at_ (j := 0) rfl
    have r1 := R0.out.at_ (j := 1) rfl
    have r2 := R0.out.at_ (j := 2) rfl
    exact bodyPost_ret (v := .tuple #[.slice A' l.length c', .agg #[.int .i64 q.f0, .int .i64 q.f1, .int .i64 q.f2]]) (by simp [results, Try.results34, go_sem, r0, r1, r2]) rfl ⟨_, _, l, q, rfl, by (try simp only [List.length_cons] at hl ⊢); omega, HU.out, hq, HR9.out, HB.out⟩
end Go.Proofs.Ytfceddgacefejaa
