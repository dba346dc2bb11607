/- GetStored, of the program and of the model, find the first entry at its key. -/
import Derived.Test.YtmdmihilhilkiaaStB
import Derived.Test.YtmdmihilhilkiaaFGetStored
namespace Go.Proofs.Ytmdmihilhilkiaa
open Go Go.ChangeShapes Go.WideShapes Go.ChangeAt Go.RowKit Go.Lib
set_option linter.unusedVariables false
set_option linter.unusedSimpArgs false
set_option maxRecDepth 100000
def pSt (a1 a2 : Int) (x : TStored) : Bool := x.f0 == a1 && x.f1 == a2
def mGetV (l : List TStored) (a1 a2 : Int) : Int := match l.find? (pSt a1 a2) with | some x => x.f2 | none => 0
def mGetOk (l : List TStored) (a1 a2 : Int) : Bool := l.any (pSt a1 a2)
theorem idxP_some {p : TStored → Bool} {l : List TStored} (h : l.any p = true) : ∃ (k : Nat) (x : TStored), idxP p l = k ∧ l[k]? = some x ∧ l.find? p = some x := by
  unfold idxP
  cases hf : l.findIdx? p with
  | none =>
    rw [List.findIdx?_eq_none_iff] at hf
    obtain ⟨x, hx, hp⟩ := List.any_eq_true.1 h
    have := hf x hx
    rw [hp] at this; cases this
  | some k =>
    obtain ⟨hk, hp, hj⟩ := List.findIdx?_eq_some_iff_getElem.1 hf
    refine ⟨k, l[k], rfl, List.getElem?_eq_getElem hk, ?_⟩
    rw [List.find?_eq_some_iff_getElem]
    exact ⟨hp, k, hk, rfl, fun j hjk => by have := hj j hjk; simpa using this⟩
theorem mGet_none {l : List TStored} {a1 a2 : Int} (h : l.any (pSt a1 a2) = false) : mGetV l a1 a2 = 0 := by
  unfold mGetV
  rw [List.find?_eq_none.2 (fun x hx => by
    have := List.any_eq_false.1 h x hx
    simpa using this)]
set_option maxHeartbeats 8000000 in
theorem spec_find (l : List TStored) (A : Option Addr) (n c lo hi : Nat) (a1 a2 : Int) (w : World) (hn : n ≤ 1048576) (hr : Rd w lo hi 4 A n (cStored l)) :
    Calls Try.prog 80 #[.slice A n c, .int .i64 a1, .int .i64 a2] w (Says (.int .i64 (idxP (pSt a1 a2) l)) w) := by
  have HL := Lib.hid (rd_len TStored.len hr (by decide))
  have HR := Lib.hid hr
  clear hr
  go_enter Try.func80, Try.ntmps80
  go_wp2_with fail
  go_loopg [7] n (fun gg i wr => ∃ k : Nat, k ≤ n ∧ n - k ≤ gg ∧ i = .int .i64 k ∧ Hid (Below w.heap.size w wr) ∧ Hid ((l.take k).any (pSt a1 a2) = false))
  case atStart => exact ⟨0, Nat.zero_le _, by omega, rfl, Lib.hid (Below.refl _ _), Lib.hid (by simp)⟩
  case round =>
    obtain ⟨k, hk, hg, rfl, HB, HF⟩ := hrel
    by_cases hlt : k < n
    · obtain ⟨b, off, x, rfl, _, _, hz, hc⟩ := rd_elem TStored.len (HR.out.new HB.out) HL.out hlt
      have c0 : wr.cell? ⟨b, off + k * 4, none⟩ = _ := hc 0 _ rfl
      have c1 := hc 1 _ rfl
      have c2 := hc 2 _ rfl
      have c3 := hc 3 _ rfl
      have HZ := Lib.hid hz
      clear hz hc
      by_cases h0 : (x.f0 == a1) = true
      · by_cases h1 : (x.f1 == a2) = true
        · have HE := Lib.hid (idxP_hit HF.out HZ.out (show pSt a1 a2 x = true by unfold pSt; rw [h0, h1]; rfl))
          go_wp2_with fail
          go_ret
          exact ⟨by rw [HE.out]; rfl, HB.out⟩
        · have h1 : (x.f1 == a2) = false := by simpa using h1
          have HE := Lib.hid (any_step HF.out HZ.out (show pSt a1 a2 x = false by unfold pSt; rw [h0, h1]; rfl))
          go_wp2_with fail
          go_roundg (n - (k + 1))
          case measure => omega
          case rel => exact ⟨k + 1, by omega, by omega, by go_num, HB, HE⟩
      · have h0 : (x.f0 == a1) = false := by simpa using h0
        have HE := Lib.hid (any_step HF.out HZ.out (show pSt a1 a2 x = false by unfold pSt; rw [h0]; rfl))
        go_wp2_with fail
        go_roundg (n - (k + 1))
        case measure => omega
        case rel => exact ⟨k + 1, by omega, by omega, by go_num, HB, HE⟩
    · obtain rfl : k = n := by omega
      have HE := Lib.hid (idxP_miss (by have := HF.out; rw [List.take_of_length_le (by have := HL.out; omega)] at this; exact this))
      go_wp2_with fail
      go_ret
      exact ⟨by rw [HE.out]; rfl, HB.out⟩
set_option maxHeartbeats 8000000 in
theorem spec_GetStored (l : List TStored) (A : Option Addr) (n c lo hi : Nat) (a1 a2 : Int) (w : World) (hn : n ≤ 1048576) (hr : Rd w lo hi 4 A n (cStored l)) (H : Hid (cStoredOk l)) (wfa1 : (Lit.int .i64 a1).wf = true) (wfa2 : (Lit.int .i64 a2).wf = true) :
    Calls Try.prog 58 #[.slice A n c, .int .i64 a1, .int .i64 a2] w (Says (.tuple #[.int .i64 (mGetV l a1 a2), .bool (mGetOk l a1 a2)]) w) := by
  have hmf : ∀ (fn : Fn) (first cap : Array Value) (w : World), (Instr.makeFunc fn first cap).run Try.prog w = .ok (.func fn first cap) w := fun _ _ _ _ => rfl
  have HC := spec_find l A n c lo hi a1 a2 w hn hr
  have HL := rd_len TStored.len hr (by decide)
  unfold mGetOk
  cases hq : l.any (pSt a1 a2) with
  | false =>
    rw [idxP_miss hq] at HC
    rw [mGet_none hq]
    have HC := Lib.hid HC
    clear hq hr HL wfa1 wfa2
    go_enter Try.func58, Try.ntmps58
    go_wp2_with fail
    refine HC.out.mono ?_
    rintro e w1 ⟨rfl, hb1⟩
    have HB1 := Lib.hid (hb1)
    clear hb1
    go_wp2_with fail
    go_ret2
    exact ⟨rfl, HB1.out⟩
  | true =>
    obtain ⟨k, x, hi', hz, hx⟩ := idxP_some hq
    rw [hi'] at HC
    have hv : mGetV l a1 a2 = x.f2 := by unfold mGetV; rw [hx]
    rw [hv]
    have hk : k < n := by
      have := (List.getElem?_eq_some_iff.1 hz).1
      omega
    obtain ⟨b, off, x', rfl, _, _, hz', hc⟩ := rd_elem TStored.len hr HL hk
    obtain rfl : x = x' := by rw [hz] at hz'; exact Option.some.inj hz'
    have c0 : w.cell? ⟨b, off + k * 4, none⟩ = _ := hc 0 _ rfl
    have c1 := hc 1 _ rfl
    have c2 := hc 2 _ rfl
    have c3 := hc 3 _ rfl
    have HC := Lib.hid HC
    have hd : decide ((k : Int) < 0) = false := by simp
    clear hq hr HL wfa1 wfa2 hi' hv hx hz hz' hc
    go_enter Try.func58, Try.ntmps58
    go_wp2_with fail
    refine HC.out.mono ?_
    rintro e w1 ⟨rfl, hb1⟩
    have d0 := cell_nw hb1 c0
    have d1 := cell_nw hb1 c1
    have d2 := cell_nw hb1 c2
    have d3 := cell_nw hb1 c3
    have HB1 := Lib.hid (hb1)
    clear hb1 c0 c1 c2 c3
    go_wp2_with fail
    go_ret2
    exact ⟨rfl, HB1.out⟩
set_option maxHeartbeats 4000000 in
theorem clo_GetStored (a1 : Int) (a2 : Int) (B : Nat) (l : List TStored) (w : World) (hq0 : w.cell? ⟨B, 0, none⟩ = some (.int .i64 a1)) (hq1 : w.cell? ⟨B + 1, 0, none⟩ = some (.int .i64 a2)) :
    PredB Try.prog 82 #[.pointer (some ⟨B, 0, none⟩), .pointer (some ⟨B + 1, 0, none⟩)] (fun x : TStored => .agg #[.int .i64 x.f0, .int .i64 x.f1, .int .i64 x.f2, .int .i64 x.f3]) (fun x => x.f0 == a1 && x.f1 == a2) l w := fun W x _ hb => by
  have c0 := cell_nw hb hq0
  have m0 : B < W.heap.size := World.block_lt_of_cell? _ _ c0
  have n0 : B ≠ W.heap.size := Nat.ne_of_lt m0
  have c1 := cell_nw hb hq1
  have m1 : B + 1 < W.heap.size := World.block_lt_of_cell? _ _ c1
  have n1 : B + 1 ≠ W.heap.size := Nat.ne_of_lt m1
  clear hb hq0 hq1
  change Calls Try.prog _ #[.agg #[.int .i64 x.f0, .int .i64 x.f1, .int .i64 x.f2, .int .i64 x.f3], .pointer (some ⟨B, 0, none⟩), .pointer (some ⟨B + 1, 0, none⟩)] _ (Says (.bool (x.f0 == a1 && x.f1 == a2)) W)
  by_cases h0 : (x.f0 == a1) = true
  · skip
    by_cases h1 : (x.f1 == a2) = true
    · skip
      have HE := Lib.hid (show (x.f0 == a1 && x.f1 == a2) = true by simp [h0, h1])
      go_enter Try.func82, Try.ntmps82
      go_wp2_with fail
      go_ret
      exact ⟨by first | rfl | (rw [HE.out]; rfl), by repeat (first | with_reducible exact Below.refl _ _ | (with_reducible refine below_step ?_ (by assumption) (by first | omega | (simp; done) | (simp <;> omega))) | (with_reducible refine Below.alloc ?_ (by first | omega | (simp; done) | (simp <;> omega)) _) | (with_reducible refine Below.setCell ?_ (by first | omega | (simp; done) | (simp <;> omega)) _) | (with_reducible refine Below.drew ?_) | (with_reducible refine below_dN ?_ _) | (refine Below.alloc ?_ (by first | omega | (simp; done) | (simp <;> omega)) _))⟩
    · have h1 : (x.f1 == a2) = false := by simpa using h1
      have HE := Lib.hid (show (x.f0 == a1 && x.f1 == a2) = false by simp [h0, h1])
      go_enter Try.func82, Try.ntmps82
      go_wp2_with fail
      go_ret
      exact ⟨by first | rfl | (rw [HE.out]; rfl), by repeat (first | with_reducible exact Below.refl _ _ | (with_reducible refine below_step ?_ (by assumption) (by first | omega | (simp; done) | (simp <;> omega))) | (with_reducible refine Below.alloc ?_ (by first | omega | (simp; done) | (simp <;> omega)) _) | (with_reducible refine Below.setCell ?_ (by first | omega | (simp; done) | (simp <;> omega)) _) | (with_reducible refine Below.drew ?_) | (with_reducible refine below_dN ?_ _) | (refine Below.alloc ?_ (by first | omega | (simp; done) | (simp <;> omega)) _))⟩
  · have h0 : (x.f0 == a1) = false := by simpa using h0
    have HE := Lib.hid (show (x.f0 == a1 && x.f1 == a2) = false by simp [h0])
    go_enter Try.func82, Try.ntmps82
    go_wp2_with fail
    go_ret
    exact ⟨by first | rfl | (rw [HE.out]; rfl), by repeat (first | with_reducible exact Below.refl _ _ | (with_reducible refine below_step ?_ (by assumption) (by first | omega | (simp; done) | (simp <;> omega))) | (with_reducible refine Below.alloc ?_ (by first | omega | (simp; done) | (simp <;> omega)) _) | (with_reducible refine Below.setCell ?_ (by first | omega | (simp; done) | (simp <;> omega)) _) | (with_reducible refine Below.drew ?_) | (with_reducible refine below_dN ?_ _) | (refine Below.alloc ?_ (by first | omega | (simp; done) | (simp <;> omega)) _))⟩
set_option maxHeartbeats 8000000 in
theorem impl_GetStored (l : List TStored) (A : Option Addr) (n c lo hi : Nat) (a1 a2 : Int) (w : World) (hn : n ≤ 1048576) (hr : Rd w lo hi 4 A n (cStored l)) (H : Hid (cStoredOk l)) (wfa1 : (Lit.int .i64 a1).wf = true) (wfa2 : (Lit.int .i64 a2).wf = true) :
    Calls Try.prog 59 #[.slice A n c, .int .i64 a1, .int .i64 a2] w (Says (.tuple #[.int .i64 (mGetV l a1 a2), .bool (mGetOk l a1 a2)]) w) := by
  have hmf : ∀ (fn : Fn) (first cap : Array Value) (w : World), (Instr.makeFunc fn first cap).run Try.prog w = .ok (.func fn first cap) w := fun _ _ _ _ => rfl
  have e0 : ((w.alloc (.cells #[.int .i64 a1] 3)).alloc (.cells #[.int .i64 a2] 3)).cell? ⟨w.heap.size, 0, none⟩ = some (.int .i64 a1) := by repeat (first | (with_reducible refine cell_newest (by simp) rfl) | (with_reducible refine cell_al ?_))
  have e1 : ((w.alloc (.cells #[.int .i64 a1] 3)).alloc (.cells #[.int .i64 a2] 3)).cell? ⟨w.heap.size + 1, 0, none⟩ = some (.int .i64 a2) := by repeat (first | (with_reducible refine cell_newest (by simp) rfl) | (with_reducible refine cell_al ?_))
  have HC := index_GetStored (pSt a1 a2) #[.pointer (some ⟨w.heap.size, 0, none⟩), .pointer (some ⟨w.heap.size + 1, 0, none⟩)] l A n c lo hi ((w.alloc (.cells #[.int .i64 a1] 3)).alloc (.cells #[.int .i64 a2] 3)) (by omega) ((hr.alloc _).alloc _) (clo_GetStored a1 a2 w.heap.size l _ e0 e1)
  have HL := rd_len TStored.len hr (by decide)
  unfold mGetOk
  cases hq : l.any (pSt a1 a2) with
  | false =>
    rw [idxP_miss hq] at HC
    rw [mGet_none hq]
    have HC := Lib.hid HC
    clear hq hr HL wfa1 wfa2 e0 e1
    go_enter Try.func59, Try.ntmps59
    go_wp2_with fail
    refine HC.out.mono ?_
    rintro e w1 ⟨rfl, hb1⟩
    have HB1 := Lib.hid (below_trans (((Below.refl _ _).alloc (Nat.le_refl _) _).alloc (by simp <;> omega) _) hb1 (by simp <;> omega))
    clear hb1
    go_wp2_with fail
    go_ret2
    exact ⟨rfl, HB1.out⟩
  | true =>
    obtain ⟨k, x, hi', hz, hx⟩ := idxP_some hq
    rw [hi'] at HC
    have hv : mGetV l a1 a2 = x.f2 := by unfold mGetV; rw [hx]
    rw [hv]
    have hk : k < n := by
      have := (List.getElem?_eq_some_iff.1 hz).1
      omega
    obtain ⟨b, off, x', rfl, _, _, hz', hc⟩ := rd_elem TStored.len hr HL hk
    obtain rfl : x = x' := by rw [hz] at hz'; exact Option.some.inj hz'
    have c0 : w.cell? ⟨b, off + k * 4, none⟩ = _ := hc 0 _ rfl
    have c1 := hc 1 _ rfl
    have c2 := hc 2 _ rfl
    have c3 := hc 3 _ rfl
    have HC := Lib.hid HC
    have hd : decide ((k : Int) < 0) = false := by simp
    clear hq hr HL wfa1 wfa2 hi' hv hx hz hz' hc e0 e1
    go_enter Try.func59, Try.ntmps59
    go_wp2_with fail
    refine HC.out.mono ?_
    rintro e w1 ⟨rfl, hb1⟩
    have d0 := cell_nw hb1 (cell_al (cell_al c0))
    have d1 := cell_nw hb1 (cell_al (cell_al c1))
    have d2 := cell_nw hb1 (cell_al (cell_al c2))
    have d3 := cell_nw hb1 (cell_al (cell_al c3))
    have HB1 := Lib.hid (below_trans (((Below.refl _ _).alloc (Nat.le_refl _) _).alloc (by simp <;> omega) _) hb1 (by simp <;> omega))
    clear hb1 c0 c1 c2 c3
    go_wp2_with fail
    go_ret2
    exact ⟨rfl, HB1.out⟩
end Go.Proofs.Ytmdmihilhilkiaa
