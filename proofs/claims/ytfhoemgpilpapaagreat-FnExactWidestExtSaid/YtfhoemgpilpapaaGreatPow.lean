/- PowersOf, of the program and of the model. No condition of its own. -/
import Derived.Test.YtfhoemgpilpapaaGreatMayN
import Derived.Test.YtfhoemgpilpapaaGreatFun
import Derived.Test.YtfhoemgpilpapaaGreatGB
import Derived.Test.YtfhoemgpilpapaaGreatSlI
import Derived.Test.YtfhoemgpilpapaaGreatApp
import Derived.Deep.LoopGhost
import Derived.Handy
namespace Go.Proofs.YtfhoemgpilpapaaGreat
open Go Go.ChangeShapes Go.WideShapes Go.ChangeAt Go.RowKit Go.Lib
set_option linter.unusedVariables false
set_option linter.unusedSimpArgs false
set_option maxRecDepth 100000
set_option maxHeartbeats 4000000
def rangeI (a : Int) (n : Nat) : List Int := (List.range n).map fun k : Nat => a + (k : Int)
theorem rangeI_len (a : Int) (n : Nat) : (rangeI a n).length = n := by simp [rangeI]
theorem rangeI_get (a : Int) {n k : Nat} (h : k < n) : (rangeI a n)[k]? = some (a + (k : Int)) := by simp [rangeI, h]
theorem rangeI_mem {a x : Int} {n : Nat} (h : x ∈ rangeI a n) : ∃ k : Nat, k < n ∧ x = a + (k : Int) := by
  simp [rangeI] at h
  obtain ⟨k, hk, rfl⟩ := h
  exact ⟨k, hk, rfl⟩
theorem info_intN : (Tryz.prog.info? 3).map (fun i => (i.zero, i.size, i.bytes)) = some (some (.int .i64 0), 1, 8) := by kernel_rfl
theorem one_intN (z : Int) : ∀ u ∈ (#[Value.int .i64 z]).toList, u.oneCell' = true := by
  intro u hu
  simp only [List.mem_singleton] at hu
  subst hu
  rfl
theorem filt_snoc {α : Type} {p : α → Bool} {l : List α} {k : Nat} {x : α} (h : l[k]? = some x) : (l.take (k + 1)).filter p = if p x = true then (l.take k).filter p ++ [x] else (l.take k).filter p := by
  rw [List.take_add_one, h, Option.toList_some, List.filter_append]
  by_cases hp : p x = true <;> simp [hp]
set_option maxHeartbeats 8000000 in
theorem numbers_Pow (p : Int → Bool) (lb : Array Value) (low : Int) (cnt : Nat) (w : World) (hl0 : 0 ≤ low) (hl1 : low ≤ 1000) (hc : cnt ≤ 1048576) (hp : PredB Tryz.prog 38 lb (fun x : Int => .int .i64 x) p (rangeI low cnt) w) :
    Calls Tryz.prog 37 #[.int .i64 low, .int .i64 (low + cnt - 1), .func (.func 38) #[] lb] w (Makes 3 1 ((rangeI low cnt).filter p).length (i64s ((rangeI low cnt).filter p)) w) := by
  have HP := Lib.hid hp
  clear hp
  have HRL := Lib.hid (rangeI_len low cnt)
  have HRG := Lib.hid (fun (k : Nat) (h : k < cnt) => rangeI_get low h)
  generalize rangeI low cnt = L at HP HRL HRG ⊢
  go_enter Tryz.func37, Tryz.ntmps37
  go_wp2_with fail
  go_loopw [7, 8] (fun v i wr => ∃ k : Nat, k ≤ cnt ∧ i = .int .i64 (low + (k : Int)) ∧ wr.ownsRow w.heap.size 3 1 v ((L.take k).filter p).length (i64s ((L.take k).filter p)) ∧ Below w.heap.size w wr) (fun _ i _ => (low + cnt - intOf i).toNat)
  case atStart => exact ⟨0, Nat.zero_le _, by (congr 1; simp), World.ownsRow_lit w #[] 0 (Nat.le_refl _) (by unfold maxLen; omega) rfl, (Below.refl _ _).alloc (Nat.le_refl _) _⟩
  case round =>
    obtain ⟨k, hk, rfl, hown, hb⟩ := hrel
    have HB := Lib.hid hb
    have HO := Lib.hid hown
    have HS := Lib.hid hb.size
    clear hown hb
    by_cases hlt : k < cnt
    · have HE := Lib.hid (filt_snoc (p := p) (HRG.out k hlt))
      have HN := Lib.hid (Nat.le_trans (List.length_filter_le p (L.take k)) (List.length_take_le _ _))
      have HC := HP.out wr (low + (k : Int)) (mem_of_get (HRG.out k hlt)) HB.out
      have hle : low + (k : Int) ≤ low + (cnt : Int) - 1 := by omega
      have HQ := HE
      cases hq : p (low + (k : Int))
      · rw [hq] at HC
        replace HC := Lib.hid HC
        have H2 := Lib.hid (by have := HE.out; rwa [if_neg (by rw [hq]; decide)] at this)
        clear hq HE HQ
        go_wp2_with (go_at_call 38; refine Calls.mono HC.out ?_; rintro e w1 ⟨rfl, hb1⟩; (have HB1 := Lib.hid (below_trans HB.out hb1 (Nat.le_refl _))); (have HO1 := Lib.hid (own_newer HO.out hb1)); clear hb1)
        go_roundw
        case rel => exact ⟨k + 1, by omega, by (congr 1; omega), by rw [H2.out]; exact HO1.out, HB1.out⟩
        case measure => simp [intOf]; omega
      · rw [hq] at HC
        replace HC := Lib.hid HC
        have H2 := Lib.hid (by have := HE.out; rwa [if_pos hq] at this)
        clear hq HE HQ
        go_wp2_with (first | (go_at_call 38; refine Calls.mono HC.out ?_; rintro e w1 ⟨rfl, hb1⟩; (have HB1 := Lib.hid (below_trans HB.out hb1 (Nat.le_refl _))); (have HO1 := Lib.hid (own_newer HO.out hb1)); (have HS1 := Lib.hid HB1.out.size); clear hb1) | (at_builtin; refine wp_app_lit rfl _ _ _ rfl w.heap.size 3 (.int .i64 0) 1 8 Tryz.underlying33 info_intN rfl (by decide) _ _ _ rfl HO1.out #[.int .i64 (low + (k : Int))] 1 1 _ rfl (by simp) rfl (one_intN _) (by have := HN.out; unfold maxLen; omega) (by have := HN.out; omega) (by have := HS1.out; omega) ?_; intro v1 w2 ho1 hb1))
        have HO2 := Lib.hid (show w2.ownsRow w.heap.size 3 1 v1 ((L.take (k + 1)).filter p).length (i64s ((L.take (k + 1)).filter p)) by
          rw [H2.out]
          simpa using ho1)
        have HB2 := Lib.hid (HB1.out.trans hb1)
        clear ho1 hb1
        go_wp2_with fail
        go_roundw
        case rel => exact ⟨k + 1, by omega, by (congr 1; omega), HO2.out, HB2.out⟩
        case measure => simp [intOf]; omega
    · obtain rfl : k = cnt := by omega
      have hle : low + (k : Int) - 1 < low + (k : Int) := by omega
      have HO2 := HO.out
      rw [List.take_of_length_le (by rw [HRL.out]; omega)] at HO2
      replace HO2 := Lib.hid HO2
      go_wp2_with fail
      go_ret
      exact makes_of_own HO2.out HB.out

def mPow (m : MBrowser) (ext : Int) (s : TSite) : List Int := (rangeI 1 4).filter (fun k => mMayN m ext s k)
theorem mPow_len (m : MBrowser) (ext : Int) (s : TSite) : (mPow m ext s).length ≤ 4 := Nat.le_trans (List.length_filter_le _ _) (Nat.le_of_eq (rangeI_len _ _))
set_option maxHeartbeats 8000000 in
theorem clo_Pow (x : DBrowser) (m : MBrowser) (lo hi : Nat) (ext : Int) (s : TSite) (B0 B1 B2 : Nat) (w : World) (hd : x.dat = m) (hz : m.sz ≤ 1048576) (hok : m.ok) (hr : x.rd w lo hi) (hc : x.caps)
    (h0 : BoxAt w B0 42 #[.int .i64 x.p0, .slice x.A1 x.n1 x.c1, .slice x.A2 x.n2 x.c2, .slice x.A3 x.n3 x.c3, .slice x.A4 x.n4 x.c4, .slice x.A5 x.n5 x.c5, .slice x.A6 x.n6 x.c6, .int .i64 x.p7]) (h1 : BoxAt w B1 3 #[.int .i64 ext]) (h2 : BoxAt w B2 44 #[.int .i64 s.f0, .int .i64 s.f1]) :
    PredB Tryz.prog 38 #[.pointer (some ⟨B0, 0, none⟩), .pointer (some ⟨B1, 0, none⟩), .pointer (some ⟨B2, 0, none⟩)] (fun z : Int => .int .i64 z) (fun k => mMayN m ext s k) (rangeI 1 4) w := fun W z hz2 hb => by
  have C0 := impl_mayNow x m lo hi ext s z W hd hz hok (hr.new hb) hc
  change Calls Tryz.prog _ #[.int .i64 z, .pointer (some ⟨B0, 0, none⟩), .pointer (some ⟨B1, 0, none⟩), .pointer (some ⟨B2, 0, none⟩)] _ (Says (.bool (mMayN m ext s z)) W)
  generalize mMayN m ext s z = r at C0 ⊢
  replace C0 := Lib.hid C0
  have J0 := h0.new hb
  have J1 := h1.new hb
  have J2 := h2.new hb
  have k0 : W.cell? ⟨B0, 0, none⟩ = some (.int .i64 x.p0) := J0.at_ rfl
  have k1 : W.cell? ⟨B0, 1, none⟩ = some (.slice x.A1 x.n1 x.c1) := J0.at_ rfl
  have k2 : W.cell? ⟨B0, 2, none⟩ = some (.slice x.A2 x.n2 x.c2) := J0.at_ rfl
  have k3 : W.cell? ⟨B0, 3, none⟩ = some (.slice x.A3 x.n3 x.c3) := J0.at_ rfl
  have k4 : W.cell? ⟨B0, 4, none⟩ = some (.slice x.A4 x.n4 x.c4) := J0.at_ rfl
  have k5 : W.cell? ⟨B0, 5, none⟩ = some (.slice x.A5 x.n5 x.c5) := J0.at_ rfl
  have k6 : W.cell? ⟨B0, 6, none⟩ = some (.slice x.A6 x.n6 x.c6) := J0.at_ rfl
  have k7 : W.cell? ⟨B0, 7, none⟩ = some (.int .i64 x.p7) := J0.at_ rfl
  have f0 : W.cell? ⟨B1, 0, none⟩ = some (.int .i64 ext) := J1.at_ rfl
  have g0 : W.cell? ⟨B2, 0, none⟩ = some (.int .i64 s.f0) := J2.at_ rfl
  have g1 : W.cell? ⟨B2, 1, none⟩ = some (.int .i64 s.f1) := J2.at_ rfl
  clear hr h0 h1 h2 hb hz hok hc hd hz2 J0 J1 J2
  go_enter Tryz.func38, Tryz.ntmps38
  go_wp2_with fail
  refine C0.out.mono ?_
  rintro e w1 ⟨rfl, hb1⟩
  have HB1 := Lib.hid hb1
  clear hb1
  go_wp2_with fail
  go_ret
  exact ⟨rfl, HB1.out⟩
set_option maxHeartbeats 8000000 in
theorem impl_PowersOfC (x : DBrowser) (m : MBrowser) (lo hi : Nat) (ext : Int) (s : TSite) (w : World) (hd : x.dat = m) (hz : m.sz ≤ 1048576) (hok : m.ok) (hr : x.rd w lo hi) (hc : x.caps) :
    Calls Tryz.prog 11 #[.agg #[.int .i64 x.p0, .slice x.A1 x.n1 x.c1, .slice x.A2 x.n2 x.c2, .slice x.A3 x.n3 x.c3, .slice x.A4 x.n4 x.c4, .slice x.A5 x.n5 x.c5, .slice x.A6 x.n6 x.c6, .int .i64 x.p7], .int .i64 ext, vSite s] w (Makes 3 1 (mPow m ext s).length (i64s (mPow m ext s)) w) := by
  have hmf : ∀ (fn : Fn) (first cap : Array Value) (w : World), (Instr.makeFunc fn first cap).run Tryz.prog w = .ok (.func fn first cap) w := fun _ _ _ _ => rfl
  have HR := Lib.hid hr
  have KB0 : BoxAt (((w.alloc (.cells #[.int .i64 x.p0, .slice x.A1 x.n1 x.c1, .slice x.A2 x.n2 x.c2, .slice x.A3 x.n3 x.c3, .slice x.A4 x.n4 x.c4, .slice x.A5 x.n5 x.c5, .slice x.A6 x.n6 x.c6, .int .i64 x.p7] 42)).alloc (.cells #[.int .i64 ext] 3)).alloc (.cells #[.int .i64 s.f0, .int .i64 s.f1] 44)) w.heap.size 42 #[.int .i64 x.p0, .slice x.A1 x.n1 x.c1, .slice x.A2 x.n2 x.c2, .slice x.A3 x.n3 x.c3, .slice x.A4 x.n4 x.c4, .slice x.A5 x.n5 x.c5, .slice x.A6 x.n6 x.c6, .int .i64 x.p7] := ((box_new w 42 #[.int .i64 x.p0, .slice x.A1 x.n1 x.c1, .slice x.A2 x.n2 x.c2, .slice x.A3 x.n3 x.c3, .slice x.A4 x.n4 x.c4, .slice x.A5 x.n5 x.c5, .slice x.A6 x.n6 x.c6, .int .i64 x.p7]).alloc_ _).alloc_ _
  have KB1 : BoxAt (((w.alloc (.cells #[.int .i64 x.p0, .slice x.A1 x.n1 x.c1, .slice x.A2 x.n2 x.c2, .slice x.A3 x.n3 x.c3, .slice x.A4 x.n4 x.c4, .slice x.A5 x.n5 x.c5, .slice x.A6 x.n6 x.c6, .int .i64 x.p7] 42)).alloc (.cells #[.int .i64 ext] 3)).alloc (.cells #[.int .i64 s.f0, .int .i64 s.f1] 44)) (w.heap.size + 1) 3 #[.int .i64 ext] := (by simpa using box_new (w.alloc (.cells #[.int .i64 x.p0, .slice x.A1 x.n1 x.c1, .slice x.A2 x.n2 x.c2, .slice x.A3 x.n3 x.c3, .slice x.A4 x.n4 x.c4, .slice x.A5 x.n5 x.c5, .slice x.A6 x.n6 x.c6, .int .i64 x.p7] 42)) 3 #[.int .i64 ext] : BoxAt ((w.alloc (.cells #[.int .i64 x.p0, .slice x.A1 x.n1 x.c1, .slice x.A2 x.n2 x.c2, .slice x.A3 x.n3 x.c3, .slice x.A4 x.n4 x.c4, .slice x.A5 x.n5 x.c5, .slice x.A6 x.n6 x.c6, .int .i64 x.p7] 42)).alloc (.cells #[.int .i64 ext] 3)) (w.heap.size + 1) 3 #[.int .i64 ext]).alloc_ _
  have KB2 : BoxAt (((w.alloc (.cells #[.int .i64 x.p0, .slice x.A1 x.n1 x.c1, .slice x.A2 x.n2 x.c2, .slice x.A3 x.n3 x.c3, .slice x.A4 x.n4 x.c4, .slice x.A5 x.n5 x.c5, .slice x.A6 x.n6 x.c6, .int .i64 x.p7] 42)).alloc (.cells #[.int .i64 ext] 3)).alloc (.cells #[.int .i64 s.f0, .int .i64 s.f1] 44)) (w.heap.size + 1 + 1) 44 #[.int .i64 s.f0, .int .i64 s.f1] := by simpa using box_new ((w.alloc (.cells #[.int .i64 x.p0, .slice x.A1 x.n1 x.c1, .slice x.A2 x.n2 x.c2, .slice x.A3 x.n3 x.c3, .slice x.A4 x.n4 x.c4, .slice x.A5 x.n5 x.c5, .slice x.A6 x.n6 x.c6, .int .i64 x.p7] 42)).alloc (.cells #[.int .i64 ext] 3)) 44 #[.int .i64 s.f0, .int .i64 s.f1]
  have HC := numbers_Pow (fun k => mMayN m ext s k) #[.pointer (some ⟨w.heap.size, 0, none⟩), .pointer (some ⟨w.heap.size + 1, 0, none⟩), .pointer (some ⟨w.heap.size + 1 + 1, 0, none⟩)] 1 4 (((w.alloc (.cells #[.int .i64 x.p0, .slice x.A1 x.n1 x.c1, .slice x.A2 x.n2 x.c2, .slice x.A3 x.n3 x.c3, .slice x.A4 x.n4 x.c4, .slice x.A5 x.n5 x.c5, .slice x.A6 x.n6 x.c6, .int .i64 x.p7] 42)).alloc (.cells #[.int .i64 ext] 3)).alloc (.cells #[.int .i64 s.f0, .int .i64 s.f1] 44)) (by decide) (by decide) (by decide) (clo_Pow x m lo hi ext s _ _ _ _ hd hz hok (((hr.alloc _).alloc _).alloc _) hc KB0 KB1 KB2)
  have HC2 := Lib.hid (show Calls Tryz.prog 37 #[.int .i64 1, .int .i64 4, .func (.func 38) #[] #[.pointer (some ⟨w.heap.size, 0, none⟩), .pointer (some ⟨w.heap.size + 1, 0, none⟩), .pointer (some ⟨w.heap.size + 1 + 1, 0, none⟩)]] (((w.alloc (.cells #[.int .i64 x.p0, .slice x.A1 x.n1 x.c1, .slice x.A2 x.n2 x.c2, .slice x.A3 x.n3 x.c3, .slice x.A4 x.n4 x.c4, .slice x.A5 x.n5 x.c5, .slice x.A6 x.n6 x.c6, .int .i64 x.p7] 42)).alloc (.cells #[.int .i64 ext] 3)).alloc (.cells #[.int .i64 s.f0, .int .i64 s.f1] 44)) (Makes 3 1 (mPow m ext s).length (i64s (mPow m ext s)) (((w.alloc (.cells #[.int .i64 x.p0, .slice x.A1 x.n1 x.c1, .slice x.A2 x.n2 x.c2, .slice x.A3 x.n3 x.c3, .slice x.A4 x.n4 x.c4, .slice x.A5 x.n5 x.c5, .slice x.A6 x.n6 x.c6, .int .i64 x.p7] 42)).alloc (.cells #[.int .i64 ext] 3)).alloc (.cells #[.int .i64 s.f0, .int .i64 s.f1] 44))) from HC)
  clear HC KB0 KB1 KB2 hr
  generalize mPow m ext s = L at HC2 ⊢
  go_enter Tryz.func11, Tryz.ntmps11
  go_wp2_with fail
  refine HC2.out.mono ?_
  rintro e w1 ⟨A1, c1, rfl, hf1, hb1⟩
  have HB1 := Lib.hid (below_trans ((((Below.refl _ _).alloc (Nat.le_refl _) _).alloc (by simp) _).alloc (by simp <;> omega) _) hb1 (by simp <;> omega))
  have HF1 := Lib.hid (hf1.mono (lo' := w.heap.size) (by simp <;> omega) (Nat.le_refl _))
  clear hb1 hf1
  go_wp2_with fail
  go_ret
  exact ⟨_, _, rfl, HF1.out, HB1.out⟩
set_option maxHeartbeats 8000000 in
theorem spec_PowersOf (x : DBrowser) (m : MBrowser) (lo hi : Nat) (ext : Int) (s : TSite) (w : World) (hd : x.dat = m) (hz : m.sz ≤ 1048576) (hok : m.ok) (hr : x.rd w lo hi) (hc : x.caps) :
    Calls Tryz.prog 8 #[.agg #[.int .i64 x.p0, .slice x.A1 x.n1 x.c1, .slice x.A2 x.n2 x.c2, .slice x.A3 x.n3 x.c3, .slice x.A4 x.n4 x.c4, .slice x.A5 x.n5 x.c5, .slice x.A6 x.n6 x.c6, .int .i64 x.p7], .int .i64 ext, vSite s] w (Makes 3 1 (mPow m ext s).length (i64s (mPow m ext s)) w) := by
  subst hd
  have hzs := hz
  rw [hr.sz] at hz
  have hz' : x.n1 + x.n2 + x.n3 + x.n4 + x.n5 + x.n6 ≤ 1048576 := by omega
  have C0 := fun (z : Int) {W : World} (hb : Below w.heap.size w W) => may_call (ext := ext) (kind := z) (s := s) (fun W r1 r2 => spec_MayDo x.l3 x.A3 x.n3 x.c3 lo hi x.l4 x.A4 x.n4 x.c4 lo hi ext s z x.p7 false W (by omega) r1 hc.1 hok.2.2.2.1 (by omega) r2 hc.2.1 hok.2.2.2.2.1) hr hb
  replace C0 := Lib.hid (fun z W (hb : Below w.heap.size w W) => C0 z hb)
  unfold mPow
  have C1 : Hid (∀ (z : Int) (W : World), Below w.heap.size w W → Calls Tryz.prog 30 #[.slice x.A3 x.n3 x.c3, .slice x.A4 x.n4 x.c4, .int .i64 ext, vSite s, .int .i64 z, .int .i64 x.p7, .bool false] W (Says (.bool ((fun k => mMayN x.dat ext s k) z)) W)) := C0
  generalize (fun k => mMayN x.dat ext s k) = P at C1 ⊢
  have HRL := Lib.hid (rangeI_len 1 4)
  have HRG := Lib.hid (fun (k : Nat) (h : k < 4) => rangeI_get 1 h)
  generalize rangeI 1 4 = L at HRL HRG ⊢
  clear hr hz hzs hok hc hz' C0
  have KB0 : BoxAt ((w.alloc (.cells #[.int .i64 x.p0, .slice x.A1 x.n1 x.c1, .slice x.A2 x.n2 x.c2, .slice x.A3 x.n3 x.c3, .slice x.A4 x.n4 x.c4, .slice x.A5 x.n5 x.c5, .slice x.A6 x.n6 x.c6, .int .i64 x.p7] 42)).alloc (.cells #[.int .i64 s.f0, .int .i64 s.f1] 44)) w.heap.size 42 #[.int .i64 x.p0, .slice x.A1 x.n1 x.c1, .slice x.A2 x.n2 x.c2, .slice x.A3 x.n3 x.c3, .slice x.A4 x.n4 x.c4, .slice x.A5 x.n5 x.c5, .slice x.A6 x.n6 x.c6, .int .i64 x.p7] := (box_new w 42 #[.int .i64 x.p0, .slice x.A1 x.n1 x.c1, .slice x.A2 x.n2 x.c2, .slice x.A3 x.n3 x.c3, .slice x.A4 x.n4 x.c4, .slice x.A5 x.n5 x.c5, .slice x.A6 x.n6 x.c6, .int .i64 x.p7]).alloc_ _
  have KB1 : BoxAt ((w.alloc (.cells #[.int .i64 x.p0, .slice x.A1 x.n1 x.c1, .slice x.A2 x.n2 x.c2, .slice x.A3 x.n3 x.c3, .slice x.A4 x.n4 x.c4, .slice x.A5 x.n5 x.c5, .slice x.A6 x.n6 x.c6, .int .i64 x.p7] 42)).alloc (.cells #[.int .i64 s.f0, .int .i64 s.f1] 44)) (w.heap.size + 1) 44 #[.int .i64 s.f0, .int .i64 s.f1] := by simpa using box_new (w.alloc (.cells #[.int .i64 x.p0, .slice x.A1 x.n1 x.c1, .slice x.A2 x.n2 x.c2, .slice x.A3 x.n3 x.c3, .slice x.A4 x.n4 x.c4, .slice x.A5 x.n5 x.c5, .slice x.A6 x.n6 x.c6, .int .i64 x.p7] 42)) 44 #[.int .i64 s.f0, .int .i64 s.f1]
  have HO0 := Lib.hid (show (((w.alloc (.cells #[.int .i64 x.p0, .slice x.A1 x.n1 x.c1, .slice x.A2 x.n2 x.c2, .slice x.A3 x.n3 x.c3, .slice x.A4 x.n4 x.c4, .slice x.A5 x.n5 x.c5, .slice x.A6 x.n6 x.c6, .int .i64 x.p7] 42)).alloc (.cells #[.int .i64 s.f0, .int .i64 s.f1] 44)).alloc (.cells #[] 3)).ownsRow (w.heap.size + 1 + 1) 3 1 (.slice (some ⟨w.heap.size + 1 + 1, 0, none⟩) 0 0) 0 [] by
    have := World.ownsRow_lit (e := 3) (size := 1) ((w.alloc (.cells #[.int .i64 x.p0, .slice x.A1 x.n1 x.c1, .slice x.A2 x.n2 x.c2, .slice x.A3 x.n3 x.c3, .slice x.A4 x.n4 x.c4, .slice x.A5 x.n5 x.c5, .slice x.A6 x.n6 x.c6, .int .i64 x.p7] 42)).alloc (.cells #[.int .i64 s.f0, .int .i64 s.f1] 44)) #[] 0 (Nat.le_refl _) (by unfold maxLen; omega) rfl
    simpa using this)
  replace KB0 := Lib.hid KB0
  replace KB1 := Lib.hid KB1
  go_enter Tryz.func8, Tryz.ntmps8
  go_wp2_with fail
  go_loopg [7, 8] 4 (fun gg v i wr => ∃ k : Nat, k ≤ 4 ∧ 4 - k ≤ gg ∧ i = .int .i64 (1 + (k : Int)) ∧ Hid (wr.ownsRow (w.heap.size + 1 + 1) 3 1 v ((L.take k).filter P).length (i64s ((L.take k).filter P))) ∧ Hid (BoxAt wr w.heap.size 42 #[.int .i64 x.p0, .slice x.A1 x.n1 x.c1, .slice x.A2 x.n2 x.c2, .slice x.A3 x.n3 x.c3, .slice x.A4 x.n4 x.c4, .slice x.A5 x.n5 x.c5, .slice x.A6 x.n6 x.c6, .int .i64 x.p7]) ∧ Hid (BoxAt wr (w.heap.size + 1) 44 #[.int .i64 s.f0, .int .i64 s.f1]) ∧ Hid (Below w.heap.size w wr))
  case atStart => exact ⟨0, Nat.zero_le _, by omega, rfl, HO0, Lib.hid (KB0.out.alloc_ _), Lib.hid (KB1.out.alloc_ _), Lib.hid ((((Below.refl w.heap.size w).alloc (Nat.le_refl _) _).alloc (by simp) _).alloc (by simp <;> omega) _)⟩
  case round =>
    obtain ⟨k, hk, hg, rfl, HO, KL0, KL1, HB⟩ := hrel
    by_cases hlt : k < 4
    · have HE := Lib.hid (filt_snoc (p := P) (HRG.out k hlt))
      have HN := Lib.hid (Nat.le_trans (List.length_filter_le P (L.take k)) (List.length_take_le _ _))
      have HC := Lib.hid (C1.out (1 + (k : Int)) wr HB.out)
      generalize hq : P (1 + (k : Int)) = q at HC HE
      clear hq
      have k3 := KL0.out.at_ (j := 3) rfl
      have k4 := KL0.out.at_ (j := 4) rfl
      have k7 := KL0.out.at_ (j := 7) rfl
      have s0 := KL1.out.at_ (j := 0) rfl
      have s1 := KL1.out.at_ (j := 1) rfl
      go_wp2_with fail
      refine HC.out.mono ?_
      rintro e w1 ⟨rfl, hb1⟩
      have HO1 := Lib.hid (own_newer HO.out hb1)
      have KE0 := Lib.hid (KL0.out.new hb1)
      have KE1 := Lib.hid (KL1.out.new hb1)
      have HB1 := Lib.hid (below_trans HB.out hb1 (Nat.le_refl _))
      have HS := Lib.hid (show w.heap.size + 1 + 1 ≤ w1.heap.size from KE1.out.lt)
      clear hb1 k3 k4 k7 s0 s1
      cases q
      · have H2 := Lib.hid (by have := HE.out; rwa [if_neg (by decide)] at this)
        go_wp2_with fail
        go_roundg (4 - (k + 1))
        case measure => omega
        case rel => exact ⟨k + 1, by omega, by omega, (by first | (congr 1; done) | (congr 1; omega)), by rw [H2.out]; exact HO1, KE0, KE1, HB1⟩
      · have H2 := Lib.hid (by have := HE.out; rwa [if_pos rfl] at this)
        go_wp2_with (at_builtin; refine wp_app_lit rfl _ _ _ rfl (w.heap.size + 1 + 1) 3 (.int .i64 0) 1 8 Tryz.underlying33 info_intN rfl (by decide) _ _ _ rfl HO1.out #[.int .i64 (1 + (k : Int))] 1 1 _ rfl (by simp) rfl (one_intN _) (by have := HN.out; unfold maxLen; omega) (by have := HN.out; omega) (by have := HS.out; omega) ?_; intro v1 w2 ho2 hb2)
        have HO2 := Lib.hid (show w2.ownsRow (w.heap.size + 1 + 1) 3 1 v1 ((L.take (k + 1)).filter P).length (i64s ((L.take (k + 1)).filter P)) by rw [H2.out]; simpa [i64s] using ho2)
        have KF0 := Lib.hid (KE0.out.keep (hb2.block _ (by omega)))
        have KF1 := Lib.hid (KE1.out.keep (hb2.block _ (by omega)))
        have HB2 := Lib.hid (HB1.out.trans (hb2.mono (by omega)))
        clear ho2 hb2
        go_wp2_with fail
        go_roundg (4 - (k + 1))
        case measure => omega
        case rel => exact ⟨k + 1, by omega, by omega, (by first | (congr 1; done) | (congr 1; omega)), HO2, KF0, KF1, HB2⟩
    · obtain rfl : k = 4 := by omega
      have HO2 := Lib.hid (own_base (base' := w.heap.size) (show wr.ownsRow (w.heap.size + 1 + 1) 3 1 _ (L.filter P).length (i64s (L.filter P)) by have := HO.out; rwa [List.take_of_length_le (by rw [HRL.out]; omega)] at this) (by omega))
      clear HO
      go_wp2_with fail
      go_ret
      exact makes_of_own HO2.out HB.out

end Go.Proofs.YtfhoemgpilpapaaGreat
