/- ValuesFor, of the program and of the model. No condition of its own. -/
import Derived.Test.YtfhoemgpilpapaaGreatMayN
import Derived.Test.YtfhoemgpilpapaaGreatCV
import Derived.Test.YtfhoemgpilpapaaGreatFun
import Derived.Test.YtfhoemgpilpapaaGreatGB
import Derived.Test.YtfhoemgpilpapaaGreatApp
import Derived.Deep.LoopGhost
import Derived.Handy
namespace Go.Proofs.YtfhoemgpilpapaaGreat
open Go Go.ChangeShapes Go.WideShapes Go.ChangeAt Go.RowKit Go.Lib
set_option linter.unusedVariables false
set_option linter.unusedSimpArgs false
set_option maxRecDepth 100000
set_option maxHeartbeats 4000000
def mVals (m : MBrowser) (ext : Int) (l : List Int) : List Int := (List.range 9).map fun j : Nat => if mMayN m ext ⟨(j : Int) + 1, 0⟩ 1 then mVal l j else 0
theorem mVals_len (m : MBrowser) (ext : Int) (l : List Int) : (mVals m ext l).length = 9 := by simp [mVals]
theorem mVals_get (m : MBrowser) (ext : Int) (l : List Int) {k : Nat} (h : k < 9) : (mVals m ext l)[k]? = some (if mMayN m ext ⟨(k : Int) + 1, 0⟩ 1 then mVal l k else 0) := by simp [mVals, h]
def mixV (m : MBrowser) (ext : Int) (l : List Int) (k : Nat) : List Int := (List.range 9).map fun j : Nat => if j < k ∧ mMayN m ext ⟨(j : Int) + 1, 0⟩ 1 = false then 0 else mVal l j
theorem mixV_len (m : MBrowser) (ext : Int) (l : List Int) (k : Nat) : (mixV m ext l k).length = 9 := by simp [mixV]
theorem mixV_get (m : MBrowser) (ext : Int) (l : List Int) (k j : Nat) (h : j < 9) : (mixV m ext l k)[j]? = some (if j < k ∧ mMayN m ext ⟨(j : Int) + 1, 0⟩ 1 = false then 0 else mVal l j) := by simp [mixV, h]
theorem mixV_0 (m : MBrowser) (ext : Int) (l : List Int) : mixV m ext l 0 = mCV l 0 0 := by
  unfold mixV mCV
  refine List.map_congr_left fun j hj => ?_
  unfold mCVat
  have : ((0 : Int) == (j : Int) + 1) = false := by simp; omega
  simp [this]
theorem mixV_9 (m : MBrowser) (ext : Int) (l : List Int) : mixV m ext l 9 = mVals m ext l := by
  unfold mixV mVals
  refine List.map_congr_left fun j hj => ?_
  have hj := List.mem_range.1 hj
  cases h : mMayN m ext ⟨(j : Int) + 1, 0⟩ 1 <;> simp [hj]
theorem mixV_yes {m : MBrowser} {ext : Int} {l : List Int} {k : Nat} (h : mMayN m ext ⟨(k : Int) + 1, 0⟩ 1 = true) : mixV m ext l k = mixV m ext l (k + 1) := by
  unfold mixV
  refine List.map_congr_left fun j hj => ?_
  by_cases e : j = k
  · subst e
    simp [h]
  · by_cases h1 : j < k
    · have h2 : j < k + 1 := by omega
      simp [h1, h2]
    · have h2 : ¬ j < k + 1 := by omega
      simp [h1, h2]
theorem mixV_no {m : MBrowser} {ext : Int} {l : List Int} {k : Nat} (hk : k < 9) (h : mMayN m ext ⟨(k : Int) + 1, 0⟩ 1 = false) : (mixV m ext l k).set k 0 = mixV m ext l (k + 1) := by
  apply List.ext_getElem?
  intro j
  rw [List.getElem?_set]
  by_cases hj : j < 9
  · rw [mixV_get m ext l (k + 1) j hj, mixV_get m ext l k j hj, mixV_len]
    by_cases e : k = j
    · subst e
      simp [h, hk]
    · by_cases h1 : j < k
      · have h2 : j < k + 1 := by omega
        simp [e, h1, h2]
      · have h2 : ¬ j < k + 1 := by omega
        simp [e, h1, h2]
  · rw [List.getElem?_eq_none (by rw [mixV_len]; omega), List.getElem?_eq_none (by rw [mixV_len]; omega), mixV_len]
    have : ¬ k = j := by omega
    simp [this]
theorem pre_set {w : World} {g m i k : Nat} {E : TypeId} {xs : List Value} {u : Value} (h : Pre w g E m xs i) : Pre (w.setCell ⟨g, k, none⟩ u) g E m (xs.set k u) i := by
  obtain ⟨f, hr, hf⟩ := h
  refine ⟨_, hr.set k u, fun j v hv => ?_⟩
  rw [List.getElem?_take] at hv
  split at hv
  · rename_i hji
    rw [List.getElem?_set] at hv
    by_cases e : k = j
    · subst e
      simp only [if_true] at hv ⊢
      split at hv
      · exact Option.some.inj hv
      · cases hv
    · have e' : ¬ j = k := fun q => e q.symm
      simp only [e, e', if_false] at hv ⊢
      exact hf j v (by rw [List.getElem?_take, if_pos hji]; exact hv)
  · cases hv
theorem i64s_set (L : List Int) (k : Nat) (z : Int) : (i64s L).set k (.int .i64 z) = i64s (L.set k z) := by unfold i64s; rw [List.map_set]
set_option maxHeartbeats 8000000 in
theorem impl_ValuesForC (x : DBrowser) (m : MBrowser) (lo hi : Nat) (ext : Int) (l : List Int) (A : Option Addr) (n c lo2 hi2 : Nat) (w : World) (hd : x.dat = m) (hz : m.sz ≤ 1048576) (hok : m.ok) (hr : x.rd w lo hi) (hc : x.caps) (hn : n ≤ 1048576) (hr2 : Rd w lo2 hi2 1 A n (i64s l)) (hcap : n ≤ c) (H : Hid (I64s l)) :
    Calls Tryz.prog 21 #[.agg #[.int .i64 x.p0, .slice x.A1 x.n1 x.c1, .slice x.A2 x.n2 x.c2, .slice x.A3 x.n3 x.c3, .slice x.A4 x.n4 x.c4, .slice x.A5 x.n5 x.c5, .slice x.A6 x.n6 x.c6, .int .i64 x.p7], .int .i64 ext, .slice A n c] w (Makes 3 1 (mVals m ext l).length (i64s (mVals m ext l)) w) := by
  have C0 := Lib.hid (fun (k : Nat) W h => impl_mayAt x m lo hi ext ((k : Int) + 1) 1 W hd hz hok h hc)
  have C1 := fun W h => implCV l A n c lo2 hi2 0 0 W hn h H (by decide) (by decide)
  rw [← mixV_0 m ext l] at C1
  replace C1 := Lib.hid C1
  have HR := Lib.hid hr
  have HR2 := Lib.hid hr2
  have HLX := Lib.hid (fun k => mixV_len m ext l k)
  have HY := Lib.hid (fun (k : Nat) h => mixV_yes (m := m) (ext := ext) (l := l) (k := k) h)
  have HN := Lib.hid (fun (k : Nat) hk h => mixV_no (m := m) (ext := ext) (l := l) (k := k) hk h)
  rw [mVals_len, ← mixV_9 m ext l]
  generalize mixV m ext l = X at C1 HLX HY HN ⊢
  obtain ⟨P, hP⟩ : ∃ P : Nat → Bool, P = fun k : Nat => mMayN m ext ⟨(k : Int) + 1, 0⟩ 1 := ⟨_, rfl⟩
  have C2 : Hid (∀ (k : Nat) (W : World), x.rd W lo hi → Calls Tryz.prog 59 #[.agg #[.int .i64 x.p0, .slice x.A1 x.n1 x.c1, .slice x.A2 x.n2 x.c2, .slice x.A3 x.n3 x.c3, .slice x.A4 x.n4 x.c4, .slice x.A5 x.n5 x.c5, .slice x.A6 x.n6 x.c6, .int .i64 x.p7], .int .i64 ext, .int .i64 ((k : Int) + 1), .int .i64 1] W (Says (.bool (P k)) W)) := by subst hP; exact C0
  have HY2 : Hid (∀ k : Nat, P k = true → X k = X (k + 1)) := by subst hP; exact HY
  have HN2 : Hid (∀ k : Nat, k < 9 → P k = false → (X k).set k 0 = X (k + 1)) := by subst hP; exact HN
  clear hr hr2 hz hok hc hd hcap H hP C0 HY HN
  have KB0 := Lib.hid (box_new w 42 #[.int .i64 x.p0, .slice x.A1 x.n1 x.c1, .slice x.A2 x.n2 x.c2, .slice x.A3 x.n3 x.c3, .slice x.A4 x.n4 x.c4, .slice x.A5 x.n5 x.c5, .slice x.A6 x.n6 x.c6, .int .i64 x.p7])
  have hb0 := Lib.hid (show Below w.heap.size w (w.alloc (.cells #[.int .i64 x.p0, .slice x.A1 x.n1 x.c1, .slice x.A2 x.n2 x.c2, .slice x.A3 x.n3 x.c3, .slice x.A4 x.n4 x.c4, .slice x.A5 x.n5 x.c5, .slice x.A6 x.n6 x.c6, .int .i64 x.p7] 42)) from (Below.refl _ _).alloc (Nat.le_refl _) _)
  go_enter Tryz.func21, Tryz.ntmps21
  go_wp2_with fail
  refine (C1.out _ (HR2.out.alloc _)).mono ?_
  rintro e w1 ⟨A1, c1, rfl, hf1, hb1⟩
  obtain ⟨g, cap, rfl, hlo, hhi, hcap, rfl, hcm, f, hrow, hf⟩ := hf1.row (by decide)
  have HP0 := Lib.hid (show Pre w1 g 3 c1 (i64s (X 0)) 9 from ⟨f, by simpa using hrow, fun j u hu => hf j u (by rwa [List.take_of_length_le (by simp [i64s, HLX.out 0])] at hu)⟩)
  have hlo' : w.heap.size + 1 ≤ g := by simpa using hlo
  have KB1 := Lib.hid (KB0.out.new hb1)
  have HB1 := Lib.hid (below_trans hb0.out hb1 (by simp))
  clear hb1 hf1 hrow hf KB0 hb0 hlo
  go_wp2_with fail
  go_loopg [13] 9 (fun gg i wr => ∃ k : Nat, k ≤ 9 ∧ 9 - k ≤ gg ∧ i = .int .i64 k ∧ Hid (Pre wr g 3 c1 (i64s (X k)) 9) ∧ Hid (BoxAt wr w.heap.size 42 #[.int .i64 x.p0, .slice x.A1 x.n1 x.c1, .slice x.A2 x.n2 x.c2, .slice x.A3 x.n3 x.c3, .slice x.A4 x.n4 x.c4, .slice x.A5 x.n5 x.c5, .slice x.A6 x.n6 x.c6, .int .i64 x.p7]) ∧ Hid (Below w.heap.size w wr) ∧ Hid (g < wr.heap.size))
  case atStart => exact ⟨0, Nat.zero_le _, by omega, rfl, HP0, KB1, HB1, Lib.hid hhi⟩
  case round =>
    obtain ⟨k, hk, hg, rfl, HP, KB, HB, HG⟩ := hrel
    by_cases hlt : k < 9
    · have HC := Lib.hid (C2.out k wr (HR.out.new HB.out))
      have k0 : wr.cell? ⟨w.heap.size, 0, none⟩ = some (.int .i64 x.p0) := KB.out.at_ rfl
      have k1 : wr.cell? ⟨w.heap.size, 1, none⟩ = some (.slice x.A1 x.n1 x.c1) := KB.out.at_ rfl
      have k2 : wr.cell? ⟨w.heap.size, 2, none⟩ = some (.slice x.A2 x.n2 x.c2) := KB.out.at_ rfl
      have k3 : wr.cell? ⟨w.heap.size, 3, none⟩ = some (.slice x.A3 x.n3 x.c3) := KB.out.at_ rfl
      have k4 : wr.cell? ⟨w.heap.size, 4, none⟩ = some (.slice x.A4 x.n4 x.c4) := KB.out.at_ rfl
      have k5 : wr.cell? ⟨w.heap.size, 5, none⟩ = some (.slice x.A5 x.n5 x.c5) := KB.out.at_ rfl
      have k6 : wr.cell? ⟨w.heap.size, 6, none⟩ = some (.slice x.A6 x.n6 x.c6) := KB.out.at_ rfl
      have k7 : wr.cell? ⟨w.heap.size, 7, none⟩ = some (.int .i64 x.p7) := KB.out.at_ rfl
      have HYk := Lib.hid (HY2.out k)
      have HNk := Lib.hid (HN2.out k hlt)
      generalize P k = q at HC HYk HNk
      go_wp2_with fail
      refine HC.out.mono ?_
      rintro e w2 ⟨rfl, hb2⟩
      have HP2 := Lib.hid (HP.out.new hb2)
      have KB2 := Lib.hid (KB.out.new hb2)
      have HB2 := Lib.hid (below_trans HB.out hb2 (Nat.le_refl _))
      have HG2 := Lib.hid (show g < w2.heap.size from HP2.out.lt)
      clear hb2 k0 k1 k2 k3 k4 k5 k6 k7
      cases q
      · obtain ⟨q0, d0⟩ := HP2.out.cell (j := k) (by omega)
        have g0 := HP2.out.frozen k
        have HX := Lib.hid (HNk.out rfl)
        go_wp2_with fail
        go_roundg (9 - (k + 1))
        case measure => omega
        case rel => exact ⟨k + 1, by omega, by omega, by go_num, Lib.hid (by rw [← HX.out, ← i64s_set]; exact pre_set HP2.out), Lib.hid (KB2.out.keep (Below.heap_setCell _ _ _ _ (by show w.heap.size ≠ g; omega))), Lib.hid (HB2.out.setCell (by show w.heap.size ≤ g; omega) _), Lib.hid (by simpa [World.setCell] using HG2.out)⟩
      · have HX := Lib.hid (HYk.out rfl)
        go_wp2_with fail
        go_roundg (9 - (k + 1))
        case measure => omega
        case rel => exact ⟨k + 1, by omega, by omega, by go_num, by rw [← HX.out]; exact HP2, KB2, HB2, HG2⟩
    · obtain rfl : k = 9 := by omega
      go_wp2_with fail
      go_ret
      exact ⟨_, _, rfl, Pre.frcap (n := 9) (size := 1) (by simpa using HP.out) (by omega) HG.out (by omega) hcm (by simp [i64s, HLX.out 9]), HB.out⟩
set_option maxHeartbeats 8000000 in
theorem spec_ValuesFor (x : DBrowser) (m : MBrowser) (lo hi : Nat) (ext : Int) (l : List Int) (A : Option Addr) (n c lo2 hi2 : Nat) (w : World) (hd : x.dat = m) (hz : m.sz ≤ 1048576) (hok : m.ok) (hr : x.rd w lo hi) (hc : x.caps) (hn : n ≤ 1048576) (hr2 : Rd w lo2 hi2 1 A n (i64s l)) (hcap : n ≤ c) (H : Hid (I64s l)) :
    Calls Tryz.prog 19 #[.agg #[.int .i64 x.p0, .slice x.A1 x.n1 x.c1, .slice x.A2 x.n2 x.c2, .slice x.A3 x.n3 x.c3, .slice x.A4 x.n4 x.c4, .slice x.A5 x.n5 x.c5, .slice x.A6 x.n6 x.c6, .int .i64 x.p7], .int .i64 ext, .slice A n c] w (Makes 3 1 (mVals m ext l).length (i64s (mVals m ext l)) w) := by
  have C0 := Lib.hid (fun (k : Nat) W h => spec_l34May x m lo hi ext ((k : Int) + 1) 1 W hd hz hok h hc)
  have C1 := Lib.hid (fun (k : Nat) W (hk : k ≤ 1048576) h => spec_Val l A n c lo2 hi2 k W hn hk h)
  have HR := Lib.hid hr
  have HR2 := Lib.hid hr2
  have HLX := Lib.hid (mVals_len m ext l)
  have HV := fun (k : Nat) (h : k < 9) => mVals_get m ext l h
  rw [mVals_len]
  generalize mVals m ext l = X at HLX HV ⊢
  obtain ⟨P, hP⟩ : ∃ P : Nat → Bool, P = fun k : Nat => mMayN m ext ⟨(k : Int) + 1, 0⟩ 1 := ⟨_, rfl⟩
  have C2 : Hid (∀ (k : Nat) (W : World), x.rd W lo hi → Calls Tryz.prog 56 #[.agg #[.int .i64 x.p0, .slice x.A1 x.n1 x.c1, .slice x.A2 x.n2 x.c2, .slice x.A3 x.n3 x.c3, .slice x.A4 x.n4 x.c4, .slice x.A5 x.n5 x.c5, .slice x.A6 x.n6 x.c6, .int .i64 x.p7], .int .i64 ext, .int .i64 ((k : Int) + 1), .int .i64 1] W (Says (.bool (P k)) W)) := by subst hP; exact C0
  have HV2 : Hid (∀ k : Nat, k < 9 → X[k]? = some (if P k then mVal l k else 0)) := by subst hP; exact Lib.hid HV
  clear hr hr2 hz hok hc hd hcap H hP C0 HV
  have KB0 := Lib.hid (box_new w 42 #[.int .i64 x.p0, .slice x.A1 x.n1 x.c1, .slice x.A2 x.n2 x.c2, .slice x.A3 x.n3 x.c3, .slice x.A4 x.n4 x.c4, .slice x.A5 x.n5 x.c5, .slice x.A6 x.n6 x.c6, .int .i64 x.p7])
  go_enter Tryz.func19, Tryz.ntmps19
  go_wp2_with fail
  go_loopg [7, 8] 9 (fun gg v i wr => ∃ k : Nat, k ≤ 9 ∧ 9 - k ≤ gg ∧ i = .int .i64 ((k : Int) + 1) ∧ Hid (wr.ownsRow (w.heap.size + 1) 3 1 v k (i64s (X.take k))) ∧ Hid (BoxAt wr w.heap.size 42 #[.int .i64 x.p0, .slice x.A1 x.n1 x.c1, .slice x.A2 x.n2 x.c2, .slice x.A3 x.n3 x.c3, .slice x.A4 x.n4 x.c4, .slice x.A5 x.n5 x.c5, .slice x.A6 x.n6 x.c6, .int .i64 x.p7]) ∧ Hid (Below w.heap.size w wr))
  case atStart => exact ⟨0, Nat.zero_le _, by omega, rfl, Lib.hid (by rw [← World.size_alloc w (.cells #[.int .i64 x.p0, .slice x.A1 x.n1 x.c1, .slice x.A2 x.n2 x.c2, .slice x.A3 x.n3 x.c3, .slice x.A4 x.n4 x.c4, .slice x.A5 x.n5 x.c5, .slice x.A6 x.n6 x.c6, .int .i64 x.p7] 42)]; exact World.ownsRow_lit (w.alloc (.cells #[.int .i64 x.p0, .slice x.A1 x.n1 x.c1, .slice x.A2 x.n2 x.c2, .slice x.A3 x.n3 x.c3, .slice x.A4 x.n4 x.c4, .slice x.A5 x.n5 x.c5, .slice x.A6 x.n6 x.c6, .int .i64 x.p7] 42)) #[] 0 (Nat.le_refl _) (by unfold maxLen; omega) rfl), Lib.hid (KB0.out.alloc_ _), Lib.hid (((Below.refl w.heap.size w).alloc (Nat.le_refl _) _).alloc (by simp) _)⟩
  case round =>
    obtain ⟨k, hk, hg, rfl, HO, KB, HB⟩ := hrel
    by_cases hlt : k < 9
    · have HC := Lib.hid (C2.out k wr (HR.out.new HB.out))
      have k0 : wr.cell? ⟨w.heap.size, 0, none⟩ = some (.int .i64 x.p0) := KB.out.at_ rfl
      have k1 : wr.cell? ⟨w.heap.size, 1, none⟩ = some (.slice x.A1 x.n1 x.c1) := KB.out.at_ rfl
      have k2 : wr.cell? ⟨w.heap.size, 2, none⟩ = some (.slice x.A2 x.n2 x.c2) := KB.out.at_ rfl
      have k3 : wr.cell? ⟨w.heap.size, 3, none⟩ = some (.slice x.A3 x.n3 x.c3) := KB.out.at_ rfl
      have k4 : wr.cell? ⟨w.heap.size, 4, none⟩ = some (.slice x.A4 x.n4 x.c4) := KB.out.at_ rfl
      have k5 : wr.cell? ⟨w.heap.size, 5, none⟩ = some (.slice x.A5 x.n5 x.c5) := KB.out.at_ rfl
      have k6 : wr.cell? ⟨w.heap.size, 6, none⟩ = some (.slice x.A6 x.n6 x.c6) := KB.out.at_ rfl
      have k7 : wr.cell? ⟨w.heap.size, 7, none⟩ = some (.int .i64 x.p7) := KB.out.at_ rfl
      have HVk := Lib.hid (HV2.out k hlt)
      generalize P k = q at HC HVk
      go_wp2_with fail
      refine HC.out.mono ?_
      rintro e w2 ⟨rfl, hb2⟩
      have HO1 := Lib.hid (own_newer HO.out hb2)
      have KB2 := Lib.hid (KB.out.new hb2)
      have HB2 := Lib.hid (below_trans HB.out hb2 (Nat.le_refl _))
      have HS := Lib.hid (show w.heap.size + 1 ≤ w2.heap.size from KB2.out.lt)
      have HR3 := Lib.hid (HR2.out.new HB2.out)
      clear hb2 k0 k1 k2 k3 k4 k5 k6 k7
      cases q
      · have HX := Lib.hid (show X[k]? = some 0 by have := HVk.out; simpa using this)
        go_wp2_with (at_builtin; refine wp_app_lit rfl _ _ _ rfl (w.heap.size + 1) 3 (.int .i64 0) 1 8 Tryz.underlying33 info_intC rfl (by decide) _ _ _ rfl HO1.out #[.int .i64 0] 1 1 _ rfl (by simp) rfl (one_intC _) (by unfold maxLen; omega) (by omega) (by have := HS.out; omega) ?_; intro v1 w3 ho2 hb3)
        have HO2 := Lib.hid (show w3.ownsRow (w.heap.size + 1) 3 1 v1 (k + 1) (i64s (X.take (k + 1))) by rw [List.take_add_one, HX.out]; simpa [i64s] using ho2)
        have KF := Lib.hid (KB2.out.keep (hb3.block _ (by omega)))
        have HB3 := Lib.hid (HB2.out.trans (hb3.mono (by omega)))
        clear ho2 hb3
        go_wp2_with fail
        go_roundg (9 - (k + 1))
        case measure => omega
        case rel => exact ⟨k + 1, by omega, by omega, (by first | (congr 1; done) | (congr 1; omega)), HO2, KF, HB3⟩
      · have HX := Lib.hid (show X[k]? = some (mVal l k) by have := HVk.out; simpa using this)
        have C3 := Lib.hid (C1.out k w2 (by omega) HR3.out)
        generalize mVal l k = z at HX C3
        go_wp2_with fail
        refine C3.out.mono ?_
        rintro e w3 ⟨rfl, rfl⟩
        go_wp2_with (at_builtin; refine wp_app_lit rfl _ _ _ rfl (w.heap.size + 1) 3 (.int .i64 0) 1 8 Tryz.underlying33 info_intC rfl (by decide) _ _ _ rfl HO1.out #[.int .i64 z] 1 1 _ rfl (by simp) rfl (one_intC _) (by unfold maxLen; omega) (by omega) (by have := HS.out; omega) ?_; intro v1 w3 ho2 hb3)
        have HO2 := Lib.hid (show w3.ownsRow (w.heap.size + 1) 3 1 v1 (k + 1) (i64s (X.take (k + 1))) by rw [List.take_add_one, HX.out]; simpa [i64s] using ho2)
        have KF := Lib.hid (KB2.out.keep (hb3.block _ (by omega)))
        have HB3 := Lib.hid (HB2.out.trans (hb3.mono (by omega)))
        clear ho2 hb3
        go_wp2_with fail
        go_roundg (9 - (k + 1))
        case measure => omega
        case rel => exact ⟨k + 1, by omega, by omega, (by first | (congr 1; done) | (congr 1; omega)), HO2, KF, HB3⟩
    · obtain rfl : k = 9 := by omega
      have HO2 := Lib.hid (own_base (base' := w.heap.size) (show wr.ownsRow (w.heap.size + 1) 3 1 _ 9 (i64s X) by have := HO.out; rwa [List.take_of_length_le (by rw [HLX.out]; omega)] at this) (by omega))
      clear HO
      go_wp2_with fail
      go_ret
      exact makes_of_own HO2.out HB.out

end Go.Proofs.YtfhoemgpilpapaaGreat
