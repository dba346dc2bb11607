/- Draws of limits; DrawMayDo. No condition of its own. -/
import Derived.Test.YtfceddgacefejaaDrG
import Derived.Test.YtfceddgacefejaaDrT
import Derived.Test.YtfceddgacefejaaTLimit
import Derived.Test.YtfceddgacefejaaFun
import Derived.Test.YtfceddgacefejaaApp
import Derived.Deep.Cut
import Derived.Deep.RegionHeld3
namespace Go.Proofs.Ytfceddgacefejaa
open Go Go.ChangeShapes Go.WideShapes Go.ChangeAt Go.RowKit Go.Lib
set_option linter.unusedVariables false
set_option linter.unusedSimpArgs false
set_option maxRecDepth 100000
theorem infoLimit : (Try.prog.info? 133).map (fun i => (i.zero, i.size, i.bytes)) = some (some (.agg #[.int .i64 0, .int .i64 0, .int .i64 0, .int .i64 0]), 4, 32) := by kernel_rfl
theorem onesLimit (x : TLimit) : ∀ u ∈ (#[.int .i64 x.f0, .int .i64 x.f1, .int .i64 x.f2, .int .i64 x.f3] : Array Value).toList, u.oneCell' = true := by
  intro u hu
  simp only [List.mem_cons, List.not_mem_nil, or_false] at hu
  rcases hu with rfl | rfl | rfl | rfl <;> rfl
set_option maxHeartbeats 8000000 in
theorem limit_any (g n cap : Nat) (A : Option Addr) (w : World) (hn : n ≤ maxLen) (hc : Cur w g A n cap) :
    Calls Try.prog 200 #[.pointer (some ⟨g, 0, none⟩)] w (Drw g A n cap (fun x : TLimit => Value.agg #[.int .i64 x.f0, .int .i64 x.f1, .int .i64 x.f2, .int .i64 x.f3]) TLimit.fit w) := by
  have HC := Lib.hid hc
  have HLT := hc.lt
  have HG := Lib.hid (World.grownBy.refl w (some g))
  clear hc
  have R := Lib.hid (show BoxAt (w.alloc (.cells #[.int .i64 0, .int .i64 0, .int .i64 0, .int .i64 0] 133)) w.heap.size 133 #[.int .i64 0, .int .i64 0, .int .i64 0, .int .i64 0] from by simpa using box_new w 133 #[.int .i64 0, .int .i64 0, .int .i64 0, .int .i64 0])
  have aR : w.heap.size ≤ w.heap.size := by have := HG.out.size; (try simp at this); omega
  replace HC := Lib.hid (HC.out.new (.cells #[.int .i64 0, .int .i64 0, .int .i64 0, .int .i64 0] 133))
  replace HG := Lib.hid (dr_al HG.out (.cells #[.int .i64 0, .int .i64 0, .int .i64 0, .int .i64 0] 133))
  go_enter Try.func200, Try.ntmps200
  go_wp2_with fail
  refine Calls.mono (below_any g n cap A 4 _ hn HC.out (by omega) (by omega)) ?_
  rintro e w1 ⟨y0, hy0a, hy0b, rfl, hc, hg⟩
  replace R := Lib.hid (R.out.grown hg (by omega))
  have lR : w.heap.size < w1.heap.size := R.out.lt
  replace HC := Lib.hid hc
  replace HG := Lib.hid (grown_both HG.out hg)
  have s1 : w.heap.size ≤ w1.heap.size := HG.out.size
  clear hc hg
  go_wp2_with fail
  refine Calls.mono (pat_any g n cap A _ hn HC.out) ?_
  rintro e w2 ⟨p, hp, rfl, hc, hg⟩
  replace R := Lib.hid (R.out.grown hg (by omega))
  have lR : w.heap.size < w2.heap.size := R.out.lt
  replace HC := Lib.hid hc
  replace HG := Lib.hid (grown_both HG.out hg)
  have s2 : w.heap.size ≤ w2.heap.size := HG.out.size
  clear hc hg
  go_wp2_with fail
  refine Calls.mono (below_any g n cap A 5 _ hn HC.out (by omega) (by omega)) ?_
  rintro e w3 ⟨y1, hy1a, hy1b, rfl, hc, hg⟩
  replace R := Lib.hid (R.out.grown hg (by omega))
  have lR : w.heap.size < w3.heap.size := R.out.lt
  replace HC := Lib.hid hc
  replace HG := Lib.hid (grown_both HG.out hg)
  have s3 : w.heap.size ≤ w3.heap.size := HG.out.size
  clear hc hg
  have HF : Hid (TLimit.fit ⟨y0, p.f0, p.f1, y1⟩) := Lib.hid (by unfold TPattern.fit at hp; unfold TLimit.fit; simp only; omega)
  obtain ⟨x4, hx⟩ : ∃ x, x = World.setRow w3 w.heap.size #[.int .i64 y0, .int .i64 p.f0, .int .i64 p.f1, .int .i64 y1] := ⟨_, rfl⟩
  have HX4 := Lib.hid hx
  have OLD4 := R
  replace R := Lib.hid (show BoxAt x4 w.heap.size 133 #[.int .i64 y0, .int .i64 p.f0, .int .i64 p.f1, .int .i64 y1] by rw [hx]; exact box_row R.out)
  replace HC := Lib.hid (show Cur x4 g A n cap by rw [hx]; exact dr_cur_row HC.out (by omega) _)
  replace HG := Lib.hid (show w.grownBy x4 (some g) by rw [hx]; exact dr_row HG.out (by omega) _)
  have z4 : w.heap.size ≤ x4.heap.size := HG.out.size
  have lR : w.heap.size < x4.heap.size := R.out.lt
  clear hx
  go_wp2_with (refine wpList_store_row rfl 133 _ _ rfl w.heap.size #[.int .i64 y0, .int .i64 p.f0, .int .i64 p.f1, .int .i64 y1] rfl rfl 133 _ OLD4.out (by kernel_rfl) (by kernel_rfl) (by kernel_rfl) ?_; rw [← HX4.out]; clear HX4 OLD4)
  have rR0 := R.out.at_ (j := 0) rfl
  have rR1 := R.out.at_ (j := 1) rfl
  have rR2 := R.out.at_ (j := 2) rfl
  have rR3 := R.out.at_ (j := 3) rfl
  exact bodyPost_ret (v := .agg #[.int .i64 y0, .int .i64 p.f0, .int .i64 p.f1, .int .i64 y1]) (by simp [results, Try.results200, go_sem, rR0, rR1, rR2, rR3]) rfl ⟨⟨y0, p.f0, p.f1, y1⟩, HF.out, rfl, HC.out, HG.out⟩
set_option maxHeartbeats 8000000 in
theorem limits_any (g n cap : Nat) (A : Option Addr) (w : World) (hn : n ≤ maxLen) (hc : Cur w g A n cap) :
    Calls Try.prog 95 #[.pointer (some ⟨g, 0, none⟩)] w (DrwL 133 4 2 TLimit.cells TLimit.fit g A n cap w) := by
  have HC := Lib.hid (hc.new (.cells #[] 133))
  have HLT := Lib.hid hc.lt
  clear hc
  go_enter Try.func95, Try.ntmps95
  go_wp2_with fail
  refine (below_any g n cap A 3 _ hn HC.out (by omega) (by omega)).mono ?_
  rintro e w0 ⟨y, hy0, hy1, rfl, hc0, hg0⟩
  obtain ⟨m, rfl⟩ := Int.eq_ofNat_of_zero_le hy0
  have hm : m ≤ 2 := by omega
  have HO0 := Lib.hid (dr_own (World.ownsRow_lit (e := 133) (size := 4) w #[] 0 (Nat.le_refl _) (by unfold maxLen; omega) rfl) HLT.out hg0)
  have HC0 := Lib.hid hc0
  have HG0 := Lib.hid (grown_both (grown_new w (.cells #[] 133) _) hg0)
  clear hc0 hg0
  go_wp2_with fail
  go_loopw [3, 4] (fun v i wr => ∃ (k : Nat) (l : List TLimit), k ≤ m ∧ l.length + k = m ∧ Hid (∀ x ∈ l, TLimit.fit x) ∧ i = .int .i64 k ∧ Hid (wr.ownsRow w.heap.size 133 4 v l.length (l.flatMap TLimit.cells)) ∧ Hid (Cur wr g A n cap) ∧ Hid (w.grownBy wr (some g))) (fun _ i _ => (intOf i).toNat)
  case atStart => exact ⟨m, [], Nat.le_refl _, by simp, Lib.hid (fun _ h => by cases h), rfl, HO0, HC0, HG0⟩
  case round =>
    obtain ⟨k, l, hk, hl, HU, rfl, HO, HCW, HGW⟩ := hrel
    have HS := Lib.hid HGW.out.size
    have hll : l.length ≤ 2 := by omega
    have HLL := Lib.hid hl
    clear hl
    by_cases hlt : 0 < k
    · obtain ⟨k', rfl⟩ : ∃ k', k = k' + 1 := ⟨k - 1, by omega⟩
      have hwk : IntKind.i64.wrap (((k' + 1 : Nat) : Int) - 1) = (k' : Int) := by rw [IntWalk.i64_in _ (by omega)]; omega
      go_wp2_with fail
      refine (limit_any g n cap A _ hn HCW.out).mono ?_
      rintro e w1 ⟨x, hx, rfl, hc1, hg1⟩
      have HO1 := Lib.hid (dr_own HO.out HLT.out hg1)
      have HC1 := Lib.hid hc1
      have HG1 := Lib.hid (grown_both HGW.out hg1)
      have HX := Lib.hid (show l.flatMap TLimit.cells ++ (#[.int .i64 x.f0, .int .i64 x.f1, .int .i64 x.f2, .int .i64 x.f3] : Array Value).toList = (l ++ [x]).flatMap TLimit.cells by simp [List.flatMap_append, TLimit.cells])
      have HXB := Lib.hid (show ∀ z ∈ l ++ [x], TLimit.fit z from fun z hz => by
        simp only [List.mem_append, List.mem_singleton] at hz
        rcases hz with hz | rfl
        · exact HU.out z hz
        · exact hx)
      clear hc1 hg1 hx
      go_wp2_with (at_builtin; refine wp_app_lit rfl _ _ _ rfl w.heap.size 133 (.agg #[.int .i64 0, .int .i64 0, .int .i64 0, .int .i64 0]) 4 32 Try.underlying25 infoLimit rfl (by decide) _ _ _ rfl HO1.out #[.int .i64 x.f0, .int .i64 x.f1, .int .i64 x.f2, .int .i64 x.f3] 1 1 _ rfl (by simp) rfl (onesLimit x) (by unfold maxLen; omega) (by omega) HG1.out.size ?_; intro v1 w2 ho2 hb2; have HO2 := Lib.hid ho2; have HB2 := Lib.hid hb2; clear ho2 hb2)
      go_roundw
      case rel => exact ⟨k', l ++ [x], by omega, by have := HLL.out; simp; omega, HXB, by go_num, Lib.hid (by rw [← HX.out]; simpa using HO2.out), Lib.hid (dr_cur_low HC1.out HLT.out HB2.out), Lib.hid (dr_low HG1.out (Nat.le_refl _) HB2.out)⟩
      case measure => simp [intOf]
    · obtain rfl : k = 0 := by omega
      go_wp2_with fail
      go_ret
      exact ⟨_, l, rfl, hll, HU.out, HO.out, HCW.out, HGW.out⟩
/-- A list as it lies, between lo and hi. -/
structure FrD where
  lo : Nat
  hi : Nat
  E : TypeId
  z : Nat
  A : Option Addr
  m : Nat
  c : Nat
  xs : List Value
/-- What stays in a drawn region that ends a draw, with lists of the draw's own as they lie. -/
def DatL (w : World) (g : Nat) (A : Option Addr) (n cap : Nat) (rs : List (Nat × TypeId × Nat)) (fs : List FrD) (W : World) : Prop :=
  DatT w g A n cap rs W ∧ ∀ f ∈ fs, g < f.lo ∧ Fr W f.lo f.hi f.E f.z f.A f.m f.c f.xs
section
variable {w W W1 : World} {g n cap : Nat} {A : Option Addr} {rs : List (Nat × TypeId × Nat)} {fs : List FrD}
theorem fr_grownL {w w1 : World} {lo hi z m c g : Nat} {E : TypeId} {A : Option Addr} {xs : List Value} (h : Fr w lo hi E z A m c xs) (hg : w.grownBy w1 (some g)) (hl : g < lo) : Fr w1 lo hi E z A m c xs :=
  h.keep fun b h1 _ h3 => hg.block b h3 (by intro e; injection e; omega)
theorem DatL.cur (h : DatL w g A n cap rs fs W) (hb : BytesAt w w.heap.size A n) (hg : w.heap.size ≤ g) : Cur W g A n cap := h.1.cur hb hg
theorem DatL.call (h : DatL w g A n cap rs fs W) (hc : Cur W1 g A n cap) (hg : W.grownBy W1 (some g)) (hr : ∀ r ∈ rs, r.1 ≠ g) (hl : w.heap.size ≤ g) : DatL w g A n cap rs fs W1 :=
  ⟨h.1.call hc hg hr hl, fun f hf => ⟨(h.2 f hf).1, fr_grownL (h.2 f hf).2 hg (h.2 f hf).1⟩⟩
theorem DatL.row (h : DatL w g A n cap rs fs W) (b : Nat) (hb : b < g) (hl : w.heap.size ≤ b) (cs : Array Value) (hsz : ∀ r ∈ rs, r.1 = b → cs.size = r.2.2) : DatL w g A n cap rs fs (W.setRow b cs) :=
  ⟨h.1.row b (by omega) hl cs hsz, fun f hf => ⟨(h.2 f hf).1, (h.2 f hf).2.keep (fun k h1 _ _ => setRow_other W b k cs (by have := (h.2 f hf).1; omega))⟩⟩
theorem DatL.mk_ (ho : ∀ f ∈ fs, g < f.lo ∧ Fr W f.lo f.hi f.E f.z f.A f.m f.c f.xs) (hb : Below w.heap.size w W) (hc : Cur W g A n cap) (hr : ∀ r ∈ rs, ∃ cs : Array Value, cs.size = r.2.2 ∧ BoxAt W r.1 r.2.1 cs) : DatL w g A n cap rs fs W :=
  ⟨DatT.mk_ hb hc hr, ho⟩
theorem DatL.drw (h : DatL w g A n cap rs fs W) : DatL w g A n cap rs fs W.drew := ⟨h.1.drw, fun f hf => ⟨(h.2 f hf).1, (h.2 f hf).2.keep (fun _ _ _ _ => rfl)⟩⟩
end
theorem fr_szL {W : World} {k b : Nat} {t : TypeId} {cs : Array Value} (h : BoxAt W b t cs) (hk : k ≤ b) : k ≤ W.heap.size := Nat.le_of_lt (Nat.lt_of_le_of_lt hk h.lt)
/-- Grants, limits, an extension, a site, a kind, a time and a click are drawn. -/
def DrawnMD (w : World) (e : Ending) (w' : World) : Prop :=
  ∃ (A : Option Addr) (c : Nat) (l : List TGrant) (A1 : Option Addr) (c1 : Nat) (m : List TLimit) (x : Int) (s : TSite) (k t : Int) (b : Bool), e = .returned (.tuple #[.slice A l.length c, .slice A1 m.length c1, .int .i64 x, .agg #[.int .i64 s.f0, .int .i64 s.f1], .int .i64 k, .int .i64 t, .bool b]) ∧ l.length ≤ 6 ∧ (∀ y ∈ l, y.fit) ∧ m.length ≤ 2 ∧ (∀ y ∈ m, y.fit) ∧ 0 ≤ x ∧ x ≤ 3 ∧ s.fit ∧ 0 ≤ k ∧ k ≤ 4 ∧ 0 ≤ t ∧ t ≤ 17 ∧ l.length ≤ c ∧ m.length ≤ c1 ∧ Rd w' w.heap.size w'.heap.size 7 A l.length (cGrant l) ∧ Rd w' w.heap.size w'.heap.size 4 A1 m.length (cLimit m) ∧ Below w.heap.size w w'
set_option maxHeartbeats 32000000 in
theorem drawMD_any (n cap : Nat) (A : Option Addr) (w : World) (hn : n ≤ 140737488355328) (hb : BytesAt w w.heap.size A n) :
    Calls Try.prog 16 #[.slice A n cap] w (DrawnMD w) := by
  have hn' : n ≤ maxLen := by unfold maxLen; omega
  have HY := Lib.hid hb
  have R0 := Lib.hid (show BoxAt (w.alloc (.cells #[.int .i64 0, .int .i64 0] 27)) w.heap.size 27 #[.int .i64 0, .int .i64 0] from by simpa using box_new w 27 #[.int .i64 0, .int .i64 0])
  have HB := Lib.hid ((Below.refl w.heap.size w).alloc (by first | exact Nat.le_refl _ | (simp; done) | (simp; omega)) (.cells #[.int .i64 0, .int .i64 0] 27))
  clear hb
  go_enter Try.func16, Try.ntmps16
  go_wp2_with fail
  refine Calls.mono (dr_new n cap A w _ (w.heap.size + 1) (by simp) hn HY.out HB.out) ?_
  rintro e w1 ⟨rfl, hc, hb1⟩
  have HC := Lib.hid hc
  replace R0 := Lib.hid (dr_box_low R0.out hb1 (by omega))
  replace HB := Lib.hid (HB.out.trans (hb1.mono (by omega)))
  have l1 : (w.heap.size + 1) < w1.heap.size := HC.out.lt
  clear hc hb1
  go_wp2_with fail
  refine Calls.mono (grants_any (w.heap.size + 1) n cap A _ hn' HC.out) ?_
  rintro e w2 ⟨v, l, rfl, hl, hu, ho, hc, hg⟩
  have sz2 : w1.heap.size ≤ w2.heap.size := hg.size
  
  replace R0 := Lib.hid (R0.out.grown hg (by omega))
  replace HB := Lib.hid (dr_below HB.out (by omega) hg)
  replace HC := Lib.hid hc
  have l2 : (w.heap.size + 1) < w2.heap.size := HC.out.lt
  clear hc hg
  have HU := Lib.hid hu
  clear hu
  obtain ⟨AG, cG, rfl, hF⟩ := fr_of_own ho
  obtain ⟨hG, hhe⟩ : ∃ x, x = w2.heap.size := ⟨_, rfl⟩
  rw [← hhe] at hF
  have hGl : hG ≤ w2.heap.size := by omega
  clear hhe
  have HF1 := Lib.hid hF
  clear ho hF
  go_wp2_with fail
  refine Calls.mono (limits_any (w.heap.size + 1) n cap A _ hn' HC.out) ?_
  rintro e w3 ⟨v, m, rfl, hm, hu, ho, hc, hg⟩
  have sz3 : w2.heap.size ≤ w3.heap.size := hg.size
  replace HF1 := Lib.hid (fr_grownL HF1.out hg (by omega))
  replace R0 := Lib.hid (R0.out.grown hg (by omega))
  replace HB := Lib.hid (dr_below HB.out (by omega) hg)
  replace HC := Lib.hid hc
  have l3 : (w.heap.size + 1) < w3.heap.size := HC.out.lt
  clear hc hg
  have HM := Lib.hid hu
  clear hu
  obtain ⟨AL, cL, rfl, hF⟩ := fr_of_own ho
  obtain ⟨hL, hhe⟩ : ∃ x, x = w3.heap.size := ⟨_, rfl⟩
  rw [← hhe] at hF
  have hLl : hL ≤ w3.heap.size := by omega
  clear hhe
  have HF2 := Lib.hid hF
  clear ho hF
  go_wp2_with fail
  refine Calls.mono (below_any (w.heap.size + 1) n cap A 3 _ hn' HC.out (by omega) (by omega)) ?_
  rintro e w4 ⟨ye, hea, heb, rfl, hc, hg⟩
  have sz4 : w3.heap.size ≤ w4.heap.size := hg.size
  replace HF1 := Lib.hid (fr_grownL HF1.out hg (by omega))
  replace HF2 := Lib.hid (fr_grownL HF2.out hg (by omega))
  replace R0 := Lib.hid (R0.out.grown hg (by omega))
  replace HB := Lib.hid (dr_below HB.out (by omega) hg)
  replace HC := Lib.hid hc
  have l4 : (w.heap.size + 1) < w4.heap.size := HC.out.lt
  clear hc hg
  go_wp2_with fail
  refine Calls.mono (site_any (w.heap.size + 1) n cap A _ hn' HC.out) ?_
  rintro e w5 ⟨s, hs, rfl, hc, hg⟩
  have sz5 : w4.heap.size ≤ w5.heap.size := hg.size
  replace HF1 := Lib.hid (fr_grownL HF1.out hg (by omega))
  replace HF2 := Lib.hid (fr_grownL HF2.out hg (by omega))
  replace R0 := Lib.hid (R0.out.grown hg (by omega))
  replace HB := Lib.hid (dr_below HB.out (by omega) hg)
  replace HC := Lib.hid hc
  have l5 : (w.heap.size + 1) < w5.heap.size := HC.out.lt
  clear hc hg
  obtain ⟨x5, hx⟩ : ∃ x, x = World.setRow (w5.alloc (.cells #[.int .i64 0, .int .i64 0] 27)) w5.heap.size #[.int .i64 s.f0, .int .i64 s.f1] := ⟨_, rfl⟩
  have HX5 := Lib.hid hx
  have OLD5 := Lib.hid (box_new w5 27 #[.int .i64 0, .int .i64 0])
  replace R0 := Lib.hid (show BoxAt x5 w.heap.size 27 #[.int .i64 0, .int .i64 0] by rw [hx]; exact box_far (R0.out.alloc_ _) (by omega))
  have KS := Lib.hid (show BoxAt x5 w5.heap.size 27 #[.int .i64 s.f0, .int .i64 s.f1] by rw [hx]; exact box_row OLD5.out)
  replace HC := Lib.hid (show Cur x5 (w.heap.size + 1) A n cap by rw [hx]; exact dr_cur_row (HC.out.new _) (by omega) _)
  replace HB := Lib.hid (show Below w.heap.size w x5 by rw [hx]; exact below_setRow (HB.out.alloc (by have := HB.out.size; omega) _) (by omega) _)
  have hszKS : w3.heap.size ≤ w5.heap.size := by omega
  have m5 : w5.heap.size < x5.heap.size := KS.out.lt
  clear hx
  replace HF1 := Lib.hid (show Fr x5 w1.heap.size hG 35 7 AG l.length cG (cGrant l) by rw [HX5.out]; exact HF1.out.keep fun b h1 h2 h3 => (setRow_other _ _ b _ (by omega)).trans (Below.heap_alloc _ _ b h3))
  replace HF2 := Lib.hid (show Fr x5 w2.heap.size hL 133 4 AL m.length cL (cLimit m) by rw [HX5.out]; exact HF2.out.keep fun b h1 h2 h3 => (setRow_other _ _ b _ (by omega)).trans (Below.heap_alloc _ _ b h3))
  go_upto_region 6 with (refine wpList_store_row rfl 27 _ _ rfl w5.heap.size #[.int .i64 s.f0, .int .i64 s.f1] rfl rfl 27 _ OLD5.out (by kernel_rfl) (by kernel_rfl) (by kernel_rfl) ?_; rw [← HX5.out]; clear HX5 OLD5)
  refine wp_region_held_drew (S := fun w' => BoxAt w' w5.heap.size 27 #[.int .i64 s.f0, .int .i64 s.f1] ∧ DatL w (w.heap.size + 1) A n cap [(w.heap.size, 27, 2)] [⟨w1.heap.size, hG, 35, 7, AG, l.length, cG, cGrant l⟩, ⟨w2.heap.size, hL, 133, 4, AL, m.length, cL, cLimit m⟩] w') (by kernel_rfl) ?_ (fun hHeld => ?_)
  · exact ⟨KS.out.drw, (DatL.mk_ (fs := [⟨w1.heap.size, hG, 35, 7, AG, l.length, cG, cGrant l⟩, ⟨w2.heap.size, hL, 133, 4, AL, m.length, cL, cLimit m⟩]) (rs := [(w.heap.size, 27, 2)]) (by simp only [List.mem_cons, List.not_mem_nil, or_false, forall_eq_or_imp, forall_eq]; exact ⟨⟨by omega, HF1.out⟩, ⟨by omega, HF2.out⟩⟩) HB.out HC.out (by simp only [List.mem_cons, List.not_mem_nil, or_false, forall_eq_or_imp, forall_eq]; exact ⟨_, rfl, R0.out⟩)).drw⟩
  refine wpAnyH_take (i := 0) (oi := ⟨some 25, _, _, _, _, _⟩) (v := ?_) rfl (by kernel_rfl) (by kernel_rfl) (by kernel_rfl) (fun _ _ _ h => h) (Or.inl ⟨by kernel_rfl, ?_⟩) hHeld ?_
  rotate_left
  focus (intro W hS; skip; clear hS; first | (go_simp; done) | (go_simp; with_reducible rfl))
  try simp only [Act.put, List.setIfInBounds_toArray, List.set_cons_zero, List.set_cons_succ]
  refine wpAnyH_take (i := 1) (oi := ⟨some 26, _, _, _, _, _⟩) (v := ?_) rfl (by kernel_rfl) (by kernel_rfl) (by kernel_rfl) (fun _ _ _ h => h) (Or.inl ⟨by kernel_rfl, ?_⟩) hHeld ?_
  rotate_left
  focus (intro W hS; skip; clear hS; first | (go_simp; done) | (go_simp; with_reducible rfl))
  try simp only [Act.put, List.setIfInBounds_toArray, List.set_cons_zero, List.set_cons_succ]
  refine wpAnyH_take (i := 2) (oi := ⟨some 27, _, _, _, _, _⟩) (v := ?_) rfl (by kernel_rfl) (by kernel_rfl) (by kernel_rfl) (fun _ _ _ h => h) (Or.inl ⟨by kernel_rfl, ?_⟩) hHeld ?_
  rotate_left
  focus (intro W hS; skip; clear hS; first | (go_simp; done) | (go_simp; with_reducible rfl))
  try simp only [Act.put, List.setIfInBounds_toArray, List.set_cons_zero, List.set_cons_succ]
  refine wpAnyH_take (i := 3) (oi := ⟨some 28, _, _, _, _, _⟩) (v := ?_) rfl (by kernel_rfl) (by kernel_rfl) (by kernel_rfl) (fun _ _ _ h => h) (Or.inl ⟨by kernel_rfl, ?_⟩) hHeld ?_
  rotate_left
  focus (intro W hS; have c0_0 := (hS.1).at_ (j := 0) rfl; have c0_1 := (hS.1).at_ (j := 1) rfl; clear hS; first | (go_simp; done) | (go_simp; with_reducible rfl))
  try simp only [Act.put, List.setIfInBounds_toArray, List.set_cons_zero, List.set_cons_succ]
  refine wpAnyH_take (i := 4) (oi := ⟨some 29, _, _, _, _, _⟩) (v := ?_) rfl (by kernel_rfl) (by kernel_rfl) (by kernel_rfl) (fun _ _ _ h => h) (Or.inl ⟨by kernel_rfl, ?_⟩) hHeld ?_
  rotate_left
  focus (intro W hS; skip; clear hS; first | (go_simp; done) | (go_simp; with_reducible rfl))
  try simp only [Act.put, List.setIfInBounds_toArray, List.set_cons_zero, List.set_cons_succ]
  refine wpAnyH_take (i := 7) (oi := ⟨some 32, _, _, _, _, _⟩) (v := ?_) rfl (by kernel_rfl) (by kernel_rfl) (by kernel_rfl) (fun _ _ _ h => h) (Or.inl ⟨by kernel_rfl, ?_⟩) hHeld ?_
  rotate_left
  focus (intro W hS; skip; clear hS; first | (go_simp; done) | (go_simp; with_reducible rfl))
  try simp only [Act.put, List.setIfInBounds_toArray, List.set_cons_zero, List.set_cons_succ]
  refine wpAnyH_take (i := 9) (oi := ⟨some 34, _, _, _, _, _⟩) (v := ?_) rfl (by kernel_rfl) (by kernel_rfl) (by kernel_rfl) (fun _ _ _ h => h) (Or.inl ⟨by kernel_rfl, ?_⟩) hHeld ?_
  rotate_left
  focus (intro W hS; skip; clear hS; first | (go_simp; done) | (go_simp; with_reducible rfl))
  try simp only [Act.put, List.setIfInBounds_toArray, List.set_cons_zero, List.set_cons_succ]
  refine wpAnyH_ready (rs := [5]) (by kernel_rfl) (by simp) ?_
  refine AllReadyH.cons (o := ⟨some 30, _, _, _, _, _⟩) rfl (fun K hK => ?_) AllReadyH.nil
  go_simp
  refine Calls.mono (below_any (w.heap.size + 1) n cap A 4 _ hn' (hHeld.2.cur HY.out (by omega)) (by omega) (by omega)) ?_
  rintro e v1 ⟨yk, hyka, hykb, rfl, hc, hg⟩
  refine hK.out _ _ ⟨hHeld.1.grown hg (by omega), hHeld.2.call hc hg (by simp <;> omega) (by omega)⟩ (fun hHeld' => ?_)
  clear hK K hHeld hc hg; have hHeld := hHeld'; clear hHeld'
  try simp only [Act.put, List.setIfInBounds_toArray, List.set_cons_zero, List.set_cons_succ]
  refine wpAnyH_take (i := 6) (oi := ⟨some 31, _, _, _, _, _⟩) (v := ?_) rfl (by kernel_rfl) (by kernel_rfl) (by kernel_rfl) (fun _ _ _ h => h) (Or.inl ⟨by kernel_rfl, ?_⟩) hHeld ?_
  rotate_left
  focus (intro W hS; skip; clear hS; first | (go_simp; done) | (go_simp; with_reducible rfl))
  try simp only [Act.put, List.setIfInBounds_toArray, List.set_cons_zero, List.set_cons_succ]
  refine wpAnyH_ready (rs := [8]) (by kernel_rfl) (by simp) ?_
  refine AllReadyH.cons (o := ⟨some 33, _, _, _, _, _⟩) rfl (fun K hK => ?_) AllReadyH.nil
  go_simp
  refine Calls.mono (below_any (w.heap.size + 1) n cap A 18 _ hn' (hHeld.2.cur HY.out (by omega)) (by omega) (by omega)) ?_
  rintro e v2 ⟨yt, hyta, hytb, rfl, hc, hg⟩
  refine hK.out _ _ ⟨hHeld.1.grown hg (by omega), hHeld.2.call hc hg (by simp <;> omega) (by omega)⟩ (fun hHeld' => ?_)
  clear hK K hHeld hc hg; have hHeld := hHeld'; clear hHeld'
  try simp only [Act.put, List.setIfInBounds_toArray, List.set_cons_zero, List.set_cons_succ]
  refine wpAnyH_ready (rs := [10]) (by kernel_rfl) (by simp) ?_
  refine AllReadyH.cons (o := ⟨some 35, _, _, _, _, _⟩) rfl (fun K hK => ?_) AllReadyH.nil
  go_simp
  refine Calls.mono (once_any (w.heap.size + 1) n cap A 2 _ hn' (hHeld.2.cur HY.out (by omega)) (by omega) (by omega)) ?_
  rintro e v3 ⟨b, rfl, hc, hg⟩
  refine hK.out _ _ ⟨hHeld.1.grown hg (by omega), hHeld.2.call hc hg (by simp <;> omega) (by omega)⟩ (fun hHeld' => ?_)
  clear hK K hHeld hc hg; have hHeld := hHeld'; clear hHeld'
  try simp only [Act.put, List.setIfInBounds_toArray, List.set_cons_zero, List.set_cons_succ]
  refine wpAnyH_take (i := 11) (oi := ⟨some 2, _, _, _, _, _⟩) (v := ?_) rfl (by kernel_rfl) (by kernel_rfl) (by kernel_rfl) (fun _ _ _ h => h) (Or.inl ⟨by kernel_rfl, ?_⟩) hHeld ?_
  rotate_left
  focus (intro W hS; skip; clear hS; first | (go_simp; done) | (go_simp; with_reducible rfl))
  try simp only [Act.put, List.setIfInBounds_toArray, List.set_cons_zero, List.set_cons_succ]
  refine wpAnyH_take (i := 12) (oi := ⟨some 3, _, _, _, _, _⟩) (v := ?_) rfl (by kernel_rfl) (by kernel_rfl) (by kernel_rfl) (fun _ _ _ h => h) (Or.inl ⟨by kernel_rfl, ?_⟩) hHeld ?_
  rotate_left
  focus (intro W hS; skip; clear hS; first | (go_simp; done) | (go_simp; with_reducible rfl))
  try simp only [Act.put, List.setIfInBounds_toArray, List.set_cons_zero, List.set_cons_succ]
  refine wpAnyH_take (i := 13) (oi := ⟨some 4, _, _, _, _, _⟩) (v := ?_) rfl (by kernel_rfl) (by kernel_rfl) (by kernel_rfl) (fun _ _ _ h => h) (Or.inl ⟨by kernel_rfl, ?_⟩) hHeld ?_
  rotate_left
  focus (intro W hS; skip; clear hS; first | (go_simp; done) | (go_simp; with_reducible rfl))
  try simp only [Act.put, List.setIfInBounds_toArray, List.set_cons_zero, List.set_cons_succ]
  refine wpAnyH_ready (rs := [14]) (by kernel_rfl) (by simp) ?_
  refine AllReadyH.cons (o := ⟨none, _, _, _, _, _⟩) rfl (fun K hK => ?_) AllReadyH.nil
  rw [if_pos (by rfl)]
  obtain ⟨cz0, hs0, hz0⟩ := hHeld.2.1.1 (w.heap.size, 27, 2) (by simp)
  refine wp_store_row 27 _ _ rfl w.heap.size #[.int .i64 s.f0, .int .i64 s.f1] rfl rfl 27 _ hz0 (by kernel_rfl) hs0 (by kernel_rfl) ?_
  have G_R0 := box_row (cs := #[.int .i64 s.f0, .int .i64 s.f1]) hz0
  have hHeld2 := hHeld.2.row w.heap.size (by omega) (by omega) #[.int .i64 s.f0, .int .i64 s.f1] (by simp)
  have hb0 := box_far (cs := #[.int .i64 s.f0, .int .i64 s.f1]) (g := w.heap.size) hHeld.1 (by omega)
  clear hz0
  generalize World.setRow _ w.heap.size #[.int .i64 s.f0, .int .i64 s.f1] = v4 at G_R0 hHeld2 hb0 ⊢
  refine hK.out _ _ ⟨hb0, hHeld2⟩ (fun hHeld' => ?_)
  clear hK K hHeld hHeld2 hb0; have hHeld := hHeld'; clear hHeld'
  try simp only [Act.put, List.setIfInBounds_toArray, List.set_cons_zero, List.set_cons_succ]
  refine wpAnyH_take (i := 15) (oi := ⟨some 6, _, _, _, _, _⟩) (v := ?_) rfl (by kernel_rfl) (by kernel_rfl) (by kernel_rfl) (fun _ _ _ h => h) (Or.inl ⟨by kernel_rfl, ?_⟩) hHeld ?_
  rotate_left
  focus (intro W hS; skip; clear hS; first | (go_simp; done) | (go_simp; with_reducible rfl))
  try simp only [Act.put, List.setIfInBounds_toArray, List.set_cons_zero, List.set_cons_succ]
  refine wpAnyH_take (i := 16) (oi := ⟨some 7, _, _, _, _, _⟩) (v := ?_) rfl (by kernel_rfl) (by kernel_rfl) (by kernel_rfl) (fun _ _ _ h => h) (Or.inl ⟨by kernel_rfl, ?_⟩) hHeld ?_
  rotate_left
  focus (intro W hS; skip; clear hS; first | (go_simp; done) | (go_simp; with_reducible rfl))
  try simp only [Act.put, List.setIfInBounds_toArray, List.set_cons_zero, List.set_cons_succ]
  refine wpAnyH_take (i := 17) (oi := ⟨some 8, _, _, _, _, _⟩) (v := ?_) rfl (by kernel_rfl) (by kernel_rfl) (by kernel_rfl) (fun _ _ _ h => h) (Or.inl ⟨by kernel_rfl, ?_⟩) hHeld ?_
  rotate_left
  focus (intro W hS; skip; clear hS; first | (go_simp; done) | (go_simp; with_reducible rfl))
  try simp only [Act.put, List.setIfInBounds_toArray, List.set_cons_zero, List.set_cons_succ]
  refine wpAnyH_done (by kernel_rfl) ?_ _
  have p0 := G_R0.at_ (j := 0) rfl
  have p1 := G_R0.at_ (j := 1) rfl
  have ek := IntWalk.i64_in (1 + yk) (by omega)
  have HBE := hHeld.2.1.2.2
  have hfs := hHeld.2.2
  simp only [List.mem_cons, List.not_mem_nil, or_false, forall_eq_or_imp, forall_eq] at hfs
  obtain ⟨⟨_, hF1⟩, _, hF2⟩ := hfs
  have HVS := Lib.hid (show w3.heap.size ≤ v4.heap.size from fr_szL hHeld.1 hszKS)
  have HR1 := hF1.rd.mono (lo' := w.heap.size) (hi' := v4.heap.size) (by omega) (by have := HBE.size; have := HVS.out; omega)
  have HR2 := hF2.rd.mono (lo' := w.heap.size) (hi' := v4.heap.size) (by omega) (by have := HVS.out; omega)
  have hk1 := hF1.cap
  have hk2 := hF2.cap
  clear hHeld hF1 hF2
  go_wp2_with fail
  exact bodyPost_ret (v := .tuple #[.slice AG l.length cG, .slice AL m.length cL, .int .i64 (1 + ye), .agg #[.int .i64 s.f0, .int .i64 s.f1], .int .i64 (1 + yk), .int .i64 yt, .bool b]) (by simp [results, Try.results16, go_sem, p0, p1, ek]) rfl ⟨AG, cG, l, AL, cL, m, _, s, _, _, b, rfl, hl, HU.out, hm, HM.out, by omega, by omega, hs, by omega, by omega, by omega, by omega, hk1, hk2, HR1, HR2, HBE⟩
end Go.Proofs.Ytfceddgacefejaa
