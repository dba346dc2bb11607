/- ActionFor and WhoDecides, of the program and of the model. -/
import Derived.Test.YtfceddgacefejaaDecide
import Derived.Test.YtfceddgacefejaaReg
namespace Go.Proofs.Ytfceddgacefejaa
open Go Go.ChangeShapes Go.WideShapes Go.ChangeAt Go.RowKit Go.Lib
set_option linter.unusedVariables false
set_option linter.unusedSimpArgs false
set_option maxRecDepth 100000
abbrev rZero : TRule := ⟨0, 0, 0, 0, 0, 0, 0, 0⟩
def mDecides (l : List TRule) (q : TRequest) : Bool := decide (0 ≤ mDecide l q)
def mGot (l : List TRule) (q : TRequest) : TRule := if mDecide l q < 0 then rZero else (l[(mDecide l q).toNat]?).getD rZero
def mActFor (l : List TRule) (q : TRequest) : Int := if mDecides l q = true then (mGot l q).f5 else 1
theorem got_no {l : List TRule} {q : TRequest} (h : mDecide l q = -1) : mGot l q = rZero ∧ mDecides l q = false := by
  unfold mGot mDecides; rw [h]; exact ⟨rfl, rfl⟩
theorem got_yes {l : List TRule} {q : TRequest} {m : Nat} {y : TRule} (h : mDecide l q = m) (hy : l[m]? = some y) : mGot l q = y ∧ mDecides l q = true := by
  unfold mGot mDecides; rw [h]; simp [hy]; intro; omega

set_option maxHeartbeats 8000000 in
theorem impl_decided (l : List TRule) (A : Option Addr) (n c lo hi : Nat) (q : TRequest) (w : World) (hn : n ≤ 1048576) (hr : Rd w lo hi 8 A n (cRule l)) (H : Hid (cRuleOk l)) :
    Calls Try.prog 159 #[.slice A n c, vReq q] w (Says (.tuple #[vRule (mGot l q), .bool (mDecides l q)]) w) := by
  have HL := Lib.hid (rd_len TRule.len hr (by decide))
  have C0 := fun W (hr : Rd W lo hi 8 A n (cRule l)) => impl_DecideRule l A n c lo hi q W hn hr H
  have hbd := decide_bd l q
  have G0 := got_no (l := l) (q := q)
  have G1 := fun m y => got_yes (l := l) (q := q) (m := m) (y := y)
  generalize mDecide l q = z at C0 hbd G0 G1
  replace C0 := Lib.hid C0
  have KB0 : BoxAt ((w.alloc (.cells #[.int .i64 q.f0, .int .i64 q.f1, .int .i64 q.f2] 57)).alloc (.cells #[.int .i64 0, .int .i64 0, .int .i64 0, .int .i64 0, .int .i64 0, .int .i64 0, .int .i64 0, .int .i64 0] 165)) w.heap.size 57 #[.int .i64 q.f0, .int .i64 q.f1, .int .i64 q.f2] := ((by simpa using box_new w 57 #[.int .i64 q.f0, .int .i64 q.f1, .int .i64 q.f2] : BoxAt (w.alloc (.cells #[.int .i64 q.f0, .int .i64 q.f1, .int .i64 q.f2] 57)) w.heap.size 57 #[.int .i64 q.f0, .int .i64 q.f1, .int .i64 q.f2])).alloc_ (.cells #[.int .i64 0, .int .i64 0, .int .i64 0, .int .i64 0, .int .i64 0, .int .i64 0, .int .i64 0, .int .i64 0] 165)
  have KB1 : BoxAt ((w.alloc (.cells #[.int .i64 q.f0, .int .i64 q.f1, .int .i64 q.f2] 57)).alloc (.cells #[.int .i64 0, .int .i64 0, .int .i64 0, .int .i64 0, .int .i64 0, .int .i64 0, .int .i64 0, .int .i64 0] 165)) (w.heap.size + 1) 165 #[.int .i64 0, .int .i64 0, .int .i64 0, .int .i64 0, .int .i64 0, .int .i64 0, .int .i64 0, .int .i64 0] := (by simpa using box_new (w.alloc (.cells #[.int .i64 q.f0, .int .i64 q.f1, .int .i64 q.f2] 57)) 165 #[.int .i64 0, .int .i64 0, .int .i64 0, .int .i64 0, .int .i64 0, .int .i64 0, .int .i64 0, .int .i64 0] : BoxAt ((w.alloc (.cells #[.int .i64 q.f0, .int .i64 q.f1, .int .i64 q.f2] 57)).alloc (.cells #[.int .i64 0, .int .i64 0, .int .i64 0, .int .i64 0, .int .i64 0, .int .i64 0, .int .i64 0, .int .i64 0] 165)) (w.heap.size + 1) 165 #[.int .i64 0, .int .i64 0, .int .i64 0, .int .i64 0, .int .i64 0, .int .i64 0, .int .i64 0, .int .i64 0])
  have HBw : Below w.heap.size w ((w.alloc (.cells #[.int .i64 q.f0, .int .i64 q.f1, .int .i64 q.f2] 57)).alloc (.cells #[.int .i64 0, .int .i64 0, .int .i64 0, .int .i64 0, .int .i64 0, .int .i64 0, .int .i64 0, .int .i64 0] 165)) := (((Below.refl _ _).alloc (by first | exact Nat.le_refl _ | (simp; done) | (simp; omega)) _).alloc (by first | exact Nat.le_refl _ | (simp; done) | (simp; omega)) _)
  have HQ := Lib.hid KB0
  have HR := Lib.hid KB1
  have HB := Lib.hid HBw
  clear KB0 KB1 HBw
  have HRd := Lib.hid ((hr.alloc (.cells #[.int .i64 q.f0, .int .i64 q.f1, .int .i64 q.f2] 57)).alloc (.cells #[.int .i64 0, .int .i64 0, .int .i64 0, .int .i64 0, .int .i64 0, .int .i64 0, .int .i64 0, .int .i64 0] 165))
  rcases (by omega : z = -1 ∨ 0 ≤ z) with rfl | hz0
  · have HG := Lib.hid (G0 rfl)
    clear G0 G1 hbd
    clear hr
    rw [HG.out.1, HG.out.2]
    go_enter Try.func159, Try.ntmps159
    go_wp2_with fail
    refine Calls.mono (C0.out _ HRd.out) ?_
    rintro e w1 ⟨rfl, hb1⟩
    replace HQ := Lib.hid ((HQ.out).new hb1)
    replace HR := Lib.hid ((HR.out).new hb1)
    replace HB := Lib.hid (below_trans (HB.out) hb1 (Nat.le_refl _))
    have lHQ : w.heap.size < w1.heap.size := HQ.out.lt
    have lHR : w.heap.size + 1 < w1.heap.size := HR.out.lt
    clear hb1
    have eHR0 := HR.out.at_ (j := 0) rfl
    have eHR1 := HR.out.at_ (j := 1) rfl
    have eHR2 := HR.out.at_ (j := 2) rfl
    have eHR3 := HR.out.at_ (j := 3) rfl
    have eHR4 := HR.out.at_ (j := 4) rfl
    have eHR5 := HR.out.at_ (j := 5) rfl
    have eHR6 := HR.out.at_ (j := 6) rfl
    have eHR7 := HR.out.at_ (j := 7) rfl
    have fHR0 := HR.out.free 0
    have fHR1 := HR.out.free 1
    have fHR2 := HR.out.free 2
    have fHR3 := HR.out.free 3
    have fHR4 := HR.out.free 4
    have fHR5 := HR.out.free 5
    have fHR6 := HR.out.free 6
    have fHR7 := HR.out.free 7
    go_wp2_with (refine wpList_store_row rfl 165 _ _ rfl (w.heap.size + 1) #[.int .i64 0, .int .i64 0, .int .i64 0, .int .i64 0, .int .i64 0, .int .i64 0, .int .i64 0, .int .i64 0] rfl rfl 165 _ HR.out (by kernel_rfl) (by kernel_rfl) (by kernel_rfl) ?_)
    have k0 := (box_row (cs := #[.int .i64 0, .int .i64 0, .int .i64 0, .int .i64 0, .int .i64 0, .int .i64 0, .int .i64 0, .int .i64 0]) HR.out).at_ (j := 0) rfl
    have k1 := (box_row (cs := #[.int .i64 0, .int .i64 0, .int .i64 0, .int .i64 0, .int .i64 0, .int .i64 0, .int .i64 0, .int .i64 0]) HR.out).at_ (j := 1) rfl
    have k2 := (box_row (cs := #[.int .i64 0, .int .i64 0, .int .i64 0, .int .i64 0, .int .i64 0, .int .i64 0, .int .i64 0, .int .i64 0]) HR.out).at_ (j := 2) rfl
    have k3 := (box_row (cs := #[.int .i64 0, .int .i64 0, .int .i64 0, .int .i64 0, .int .i64 0, .int .i64 0, .int .i64 0, .int .i64 0]) HR.out).at_ (j := 3) rfl
    have k4 := (box_row (cs := #[.int .i64 0, .int .i64 0, .int .i64 0, .int .i64 0, .int .i64 0, .int .i64 0, .int .i64 0, .int .i64 0]) HR.out).at_ (j := 4) rfl
    have k5 := (box_row (cs := #[.int .i64 0, .int .i64 0, .int .i64 0, .int .i64 0, .int .i64 0, .int .i64 0, .int .i64 0, .int .i64 0]) HR.out).at_ (j := 5) rfl
    have k6 := (box_row (cs := #[.int .i64 0, .int .i64 0, .int .i64 0, .int .i64 0, .int .i64 0, .int .i64 0, .int .i64 0, .int .i64 0]) HR.out).at_ (j := 6) rfl
    have k7 := (box_row (cs := #[.int .i64 0, .int .i64 0, .int .i64 0, .int .i64 0, .int .i64 0, .int .i64 0, .int .i64 0, .int .i64 0]) HR.out).at_ (j := 7) rfl
    exact bodyPost_ret (v := .tuple #[vRule rZero, .bool false]) (by simp [results, Try.results159, go_sem, k0, k1, k2, k3, k4, k5, k6, k7]) rfl ⟨rfl, below_setRow HB.out (by omega) _⟩
  · obtain ⟨m, rfl⟩ : ∃ m : Nat, z = m := ⟨z.toNat, by omega⟩
    have hm : m < n := by have := HL.out; omega
    obtain ⟨y, hy⟩ : ∃ y, l[m]? = some y := ⟨l[m]'(by have := HL.out; omega), List.getElem?_eq_getElem _⟩
    have HG := Lib.hid (G1 m y rfl hy)
    have hg1 : decide ((m : Int) < 0) = false := by simp
    obtain ⟨b, off, _, rfl, _⟩ := rd_elem TRule.len hr HL.out hm
    have HY := Lib.hid hy
    clear G0 G1 hbd hy
    clear hr
    rw [HG.out.1, HG.out.2]
    go_enter Try.func159, Try.ntmps159
    go_wp2_with fail
    refine Calls.mono (C0.out _ HRd.out) ?_
    rintro e w1 ⟨rfl, hb1⟩
    replace HQ := Lib.hid ((HQ.out).new hb1)
    replace HR := Lib.hid ((HR.out).new hb1)
    replace HB := Lib.hid (below_trans (HB.out) hb1 (Nat.le_refl _))
    have lHQ : w.heap.size < w1.heap.size := HQ.out.lt
    have lHR : w.heap.size + 1 < w1.heap.size := HR.out.lt
    have hd := rd_at8 (HRd.out.new hb1) HL.out HY.out hm
    have d0 : w1.cell? ⟨b, off + m * 8, none⟩ = _ := hd 0 _ rfl
    have d1 : w1.cell? ⟨b, off + m * 8 + 1, none⟩ = _ := hd 1 _ rfl
    have d2 : w1.cell? ⟨b, off + m * 8 + 2, none⟩ = _ := hd 2 _ rfl
    have d3 : w1.cell? ⟨b, off + m * 8 + 3, none⟩ = _ := hd 3 _ rfl
    have d4 : w1.cell? ⟨b, off + m * 8 + 4, none⟩ = _ := hd 4 _ rfl
    have d5 : w1.cell? ⟨b, off + m * 8 + 5, none⟩ = _ := hd 5 _ rfl
    have d6 : w1.cell? ⟨b, off + m * 8 + 6, none⟩ = _ := hd 6 _ rfl
    have d7 : w1.cell? ⟨b, off + m * 8 + 7, none⟩ = _ := hd 7 _ rfl
    clear hd
    clear hb1
    have eHR0 := HR.out.at_ (j := 0) rfl
    have eHR1 := HR.out.at_ (j := 1) rfl
    have eHR2 := HR.out.at_ (j := 2) rfl
    have eHR3 := HR.out.at_ (j := 3) rfl
    have eHR4 := HR.out.at_ (j := 4) rfl
    have eHR5 := HR.out.at_ (j := 5) rfl
    have eHR6 := HR.out.at_ (j := 6) rfl
    have eHR7 := HR.out.at_ (j := 7) rfl
    have fHR0 := HR.out.free 0
    have fHR1 := HR.out.free 1
    have fHR2 := HR.out.free 2
    have fHR3 := HR.out.free 3
    have fHR4 := HR.out.free 4
    have fHR5 := HR.out.free 5
    have fHR6 := HR.out.free 6
    have fHR7 := HR.out.free 7
    go_wp2_with (refine wpList_store_row rfl 165 _ _ rfl (w.heap.size + 1) #[.int .i64 y.f0, .int .i64 y.f1, .int .i64 y.f2, .int .i64 y.f3, .int .i64 y.f4, .int .i64 y.f5, .int .i64 y.f6, .int .i64 y.f7] rfl rfl 165 _ HR.out (by kernel_rfl) (by kernel_rfl) (by kernel_rfl) ?_)
    have k0 := (box_row (cs := #[.int .i64 y.f0, .int .i64 y.f1, .int .i64 y.f2, .int .i64 y.f3, .int .i64 y.f4, .int .i64 y.f5, .int .i64 y.f6, .int .i64 y.f7]) HR.out).at_ (j := 0) rfl
    have k1 := (box_row (cs := #[.int .i64 y.f0, .int .i64 y.f1, .int .i64 y.f2, .int .i64 y.f3, .int .i64 y.f4, .int .i64 y.f5, .int .i64 y.f6, .int .i64 y.f7]) HR.out).at_ (j := 1) rfl
    have k2 := (box_row (cs := #[.int .i64 y.f0, .int .i64 y.f1, .int .i64 y.f2, .int .i64 y.f3, .int .i64 y.f4, .int .i64 y.f5, .int .i64 y.f6, .int .i64 y.f7]) HR.out).at_ (j := 2) rfl
    have k3 := (box_row (cs := #[.int .i64 y.f0, .int .i64 y.f1, .int .i64 y.f2, .int .i64 y.f3, .int .i64 y.f4, .int .i64 y.f5, .int .i64 y.f6, .int .i64 y.f7]) HR.out).at_ (j := 3) rfl
    have k4 := (box_row (cs := #[.int .i64 y.f0, .int .i64 y.f1, .int .i64 y.f2, .int .i64 y.f3, .int .i64 y.f4, .int .i64 y.f5, .int .i64 y.f6, .int .i64 y.f7]) HR.out).at_ (j := 4) rfl
    have k5 := (box_row (cs := #[.int .i64 y.f0, .int .i64 y.f1, .int .i64 y.f2, .int .i64 y.f3, .int .i64 y.f4, .int .i64 y.f5, .int .i64 y.f6, .int .i64 y.f7]) HR.out).at_ (j := 5) rfl
    have k6 := (box_row (cs := #[.int .i64 y.f0, .int .i64 y.f1, .int .i64 y.f2, .int .i64 y.f3, .int .i64 y.f4, .int .i64 y.f5, .int .i64 y.f6, .int .i64 y.f7]) HR.out).at_ (j := 6) rfl
    have k7 := (box_row (cs := #[.int .i64 y.f0, .int .i64 y.f1, .int .i64 y.f2, .int .i64 y.f3, .int .i64 y.f4, .int .i64 y.f5, .int .i64 y.f6, .int .i64 y.f7]) HR.out).at_ (j := 7) rfl
    exact bodyPost_ret (v := .tuple #[vRule y, .bool true]) (by simp [results, Try.results159, go_sem, k0, k1, k2, k3, k4, k5, k6, k7]) rfl ⟨rfl, below_setRow HB.out (by omega) _⟩

set_option maxHeartbeats 8000000 in
theorem impl_ActionFor (l : List TRule) (A : Option Addr) (n c lo hi : Nat) (q : TRequest) (w : World) (hn : n ≤ 1048576) (hr : Rd w lo hi 8 A n (cRule l)) (H : Hid (cRuleOk l)) :
    Calls Try.prog 50 #[.slice A n c, vReq q] w (Says (.int .i64 (mActFor l q)) w) := by
  have C0 := impl_decided l A n c lo hi q (w.alloc (.cells #[.int .i64 q.f0, .int .i64 q.f1, .int .i64 q.f2] 57)) hn (hr.alloc _) H
  unfold mActFor
  generalize mGot l q = g at C0 ⊢
  generalize mDecides l q = b0 at C0 ⊢
  replace C0 := Lib.hid C0
  clear hr
  cases b0
  all_goals
    go_enter Try.func50, Try.ntmps50
    go_wp2_with fail
    refine Calls.mono C0.out ?_
    rintro e w1 ⟨rfl, hb1⟩
    have HB1 := Lib.hid (below_trans ((Below.refl _ _).alloc (Nat.le_refl _) _) hb1 (by simp))
    have hsz := HB1.out.size
    clear hb1
    go_wp2_with fail
    go_ret
    exact ⟨rfl, by first | exact HB1.out.alloc (by omega) _ | exact HB1.out⟩

end Go.Proofs.Ytfceddgacefejaa
