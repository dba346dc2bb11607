/- DecideRule, of the program and of the model. -/
import Derived.Test.YtfceddgacefejaaApplies
import Derived.Test.YtfceddgacefejaaBeforeS
import Derived.Test.YtfceddgacefejaaFun
import Derived.Deep.RegionHeld3
import Derived.Deep.LoopGhost
namespace Go.Proofs.Ytfceddgacefejaa
open Go Go.ChangeShapes Go.WideShapes Go.ChangeAt Go.RowKit Go.Lib
set_option linter.unusedVariables false
set_option linter.unusedSimpArgs false
set_option maxRecDepth 100000
/-- The place of the foremost of the first k elements of which p holds, or -1. -/
def bestOf {α : Type} (p : α → Bool) (lt : α → α → Bool) (l : List α) : Nat → Int
  | 0 => -1
  | k + 1 => match l[k]? with
    | none => bestOf p lt l k
    | some x => if p x && (decide (bestOf p lt l k < 0) || (match l[(bestOf p lt l k).toNat]? with | some y => lt x y | none => false)) then (k : Int) else bestOf p lt l k
section
variable {α : Type} {p : α → Bool} {lt : α → α → Bool} {l : List α} {k m : Nat} {x y : α}
theorem best_bd (k : Nat) : -1 ≤ bestOf p lt l k ∧ bestOf p lt l k < k := by
  induction k with
  | zero => exact ⟨by simp [bestOf], by simp [bestOf]⟩
  | succ k ih =>
    rw [bestOf]
    split
    · omega
    · split <;> omega
theorem best_no (hz : l[k]? = some x) (hq : p x = false) : bestOf p lt l (k + 1) = bestOf p lt l k := by
  rw [bestOf, hz]; simp [hq]
theorem best_first (hz : l[k]? = some x) (hq : p x = true) (hb : bestOf p lt l k = -1) : bestOf p lt l (k + 1) = k := by
  rw [bestOf, hz]; simp [hq, hb]
theorem best_yes (hz : l[k]? = some x) (hq : p x = true) (hb : bestOf p lt l k = (m : Int)) (hy : l[m]? = some y) (hl : lt x y = true) : bestOf p lt l (k + 1) = k := by
  rw [bestOf, hz]; simp [hq, hb, hy, hl]
theorem best_less (hz : l[k]? = some x) (hq : p x = true) (hb : bestOf p lt l k = (m : Int)) (hy : l[m]? = some y) (hl : lt x y = false) : bestOf p lt l (k + 1) = m := by
  rw [bestOf, hz]; simp [hq, hb, hy, hl]; intro; omega
end
def mDecide (l : List TRule) (q : TRequest) : Int := bestOf (fun r => mApplies r q) mIsBefore l l.length
theorem decide_bd (l : List TRule) (q : TRequest) : -1 ≤ mDecide l q ∧ mDecide l q < l.length := best_bd _

theorem rd_at8 {w : World} {lo hi n m b off : Nat} {l : List TRule} {y : TRule} (h : Rd w lo hi 8 (some ⟨b, off, none⟩) n (cRule l)) (hl : l.length = n) (hy : l[m]? = some y) (hm : m < n) :
    ∀ (j : Nat) (u : Value), (TRule.cells y)[j]? = some u → w.cell? ⟨b, off + m * 8 + j, none⟩ = some u := by
  obtain ⟨b', off', y', e, _, _, hz, hc⟩ := rd_elem TRule.len h hl hm
  cases e
  rw [hy] at hz
  cases hz
  exact hc

set_option maxHeartbeats 40000000 in
theorem foremost_Rule (p : TRule → Bool) (lb : Array Value) (l : List TRule) (A : Option Addr) (n c lo hi : Nat) (w : World) (hn : n ≤ 17592186044416) (hr : Rd w lo hi 8 A n (cRule l)) (hp : PredB Try.prog 140 lb vRule p l w) :
    Calls Try.prog 139 #[.slice A n c, .func (.func 140) #[] lb, .func (.func 142) #[] #[]] w (Says (.int .i64 (bestOf p mIsBefore l l.length)) w) := by
  have HL := Lib.hid (rd_len TRule.len hr (by decide))
  have HR := Lib.hid hr
  have HP := Lib.hid hp
  clear hr hp
  go_enter Try.func139, Try.ntmps139
  go_wp2_with fail
  go_loopg [7, 12] n (fun gg bv i wr => ∃ (k : Nat) (z : Int), k ≤ n ∧ n - k ≤ gg ∧ i = .int .i64 k ∧ bv = .int .i64 z ∧ Hid (bestOf p mIsBefore l k = z) ∧ Hid (Below w.heap.size w wr))
  case atStart => exact ⟨0, -1, Nat.zero_le _, by omega, rfl, rfl, Lib.hid rfl, Lib.hid (Below.refl _ _)⟩
  case round =>
    obtain ⟨k, z, hk, hg, rfl, rfl, HZb, HB⟩ := hrel
    by_cases hlt : k < n
    · obtain ⟨b, off, x, rfl, _, _, hz, hc⟩ := rd_elem TRule.len (HR.out.new HB.out) HL.out hlt
      have c0 : wr.cell? ⟨b, off + k * 8, none⟩ = _ := hc 0 _ rfl
      have c1 : wr.cell? ⟨b, off + k * 8 + 1, none⟩ = _ := hc 1 _ rfl
      have c2 : wr.cell? ⟨b, off + k * 8 + 2, none⟩ = _ := hc 2 _ rfl
      have c3 : wr.cell? ⟨b, off + k * 8 + 3, none⟩ = _ := hc 3 _ rfl
      have c4 : wr.cell? ⟨b, off + k * 8 + 4, none⟩ = _ := hc 4 _ rfl
      have c5 : wr.cell? ⟨b, off + k * 8 + 5, none⟩ = _ := hc 5 _ rfl
      have c6 : wr.cell? ⟨b, off + k * 8 + 6, none⟩ = _ := hc 6 _ rfl
      have c7 : wr.cell? ⟨b, off + k * 8 + 7, none⟩ = _ := hc 7 _ rfl
      have HZ := Lib.hid hz
      have HCl := Lib.hid (HP.out (wr.alloc (.cells #[.int .i64 x.f0, .int .i64 x.f1, .int .i64 x.f2, .int .i64 x.f3, .int .i64 x.f4, .int .i64 x.f5, .int .i64 x.f6, .int .i64 x.f7] 165)) x (mem_of_get hz) (HB.out.alloc (by have := HB.out.size; omega) _))
      have HD := Lib.hid (fun m y (h : l[m]? = some y) (hm : m < n) => (rd_at8 (HR.out.new HB.out) HL.out h hm))
      clear hc hz
      have HQ := Lib.hid (rfl : p x = p x)
      cases hq : p x
      · have HE := Lib.hid ((best_no (lt := mIsBefore) HZ.out hq).trans HZb.out)
        rw [hq] at HCl
        clear hq
        go_wp2_with (go_at_call 140; refine Calls.mono HCl.out ?_; rintro e w1 ⟨rfl, hb1⟩; (have HBq := Lib.hid (below_trans ((Below.refl _ _).alloc (Nat.le_refl _) _) hb1 (by simp) : Below wr.heap.size wr w1)); clear hb1)
        go_roundg (n - (k + 1))
        case measure => omega
        case rel => exact ⟨k + 1, z, by omega, by omega, by go_num, rfl, HE, Lib.hid (below_trans HB.out HBq.out (Nat.le_refl _))⟩
      · rw [hq] at HCl
        have hzb := best_bd (p := p) (lt := mIsBefore) (l := l) k
        rw [HZb.out] at hzb
        rcases (by omega : z = -1 ∨ 0 ≤ z) with rfl | hz0
        · have HE := Lib.hid (best_first HZ.out hq HZb.out)
          clear hq hzb
          go_wp2_with (go_at_call 140; refine Calls.mono HCl.out ?_; rintro e w1 ⟨rfl, hb1⟩; (have KB := Lib.hid ((box_new wr 165 #[.int .i64 x.f0, .int .i64 x.f1, .int .i64 x.f2, .int .i64 x.f3, .int .i64 x.f4, .int .i64 x.f5, .int .i64 x.f6, .int .i64 x.f7]).new hb1)); (have HBq := Lib.hid (below_trans ((Below.refl _ _).alloc (Nat.le_refl _) _) hb1 (by simp) : Below wr.heap.size wr w1)); (have hzz : wr.heap.size < w1.heap.size := KB.out.lt); clear hb1)
          refine wp_region_held_drew (S := fun w' => BoxAt w' wr.heap.size 165 #[.int .i64 x.f0, .int .i64 x.f1, .int .i64 x.f2, .int .i64 x.f3, .int .i64 x.f4, .int .i64 x.f5, .int .i64 x.f6, .int .i64 x.f7] ∧ Below wr.heap.size wr w') (by kernel_rfl) ?_ (fun hHeld => ?_)
          · exact ⟨KB.out.drw, HBq.out.drew⟩
          refine wpAnyH_take (i := 0) (oi := ⟨some 21, _, _, _, _, _⟩) (v := ?_) rfl (by kernel_rfl) (by kernel_rfl) (by kernel_rfl) (fun _ _ _ h => h) (Or.inl ⟨by kernel_rfl, ?_⟩) hHeld ?_
          rotate_left
          focus (intro W hS; have c0_0 := (hS.1).at_ (j := 0) rfl; have c0_1 := (hS.1).at_ (j := 1) rfl; have c0_2 := (hS.1).at_ (j := 2) rfl; have c0_3 := (hS.1).at_ (j := 3) rfl; have c0_4 := (hS.1).at_ (j := 4) rfl; have c0_5 := (hS.1).at_ (j := 5) rfl; have c0_6 := (hS.1).at_ (j := 6) rfl; have c0_7 := (hS.1).at_ (j := 7) rfl; clear hS; first | (go_simp; done) | (go_simp; with_reducible rfl))
          try simp only [Act.put, List.setIfInBounds_toArray, List.set_cons_zero, List.set_cons_succ]
          refine wpAnyH_take (i := 1) (oi := ⟨some 22, _, _, _, _, _⟩) (v := ?_) rfl (by kernel_rfl) (by kernel_rfl) (by kernel_rfl) (fun _ _ _ h => h) (Or.inl ⟨by kernel_rfl, ?_⟩) hHeld ?_
          rotate_left
          focus (intro W hS; have c0_0 := (hS.1).at_ (j := 0) rfl; have c0_1 := (hS.1).at_ (j := 1) rfl; have c0_2 := (hS.1).at_ (j := 2) rfl; have c0_3 := (hS.1).at_ (j := 3) rfl; have c0_4 := (hS.1).at_ (j := 4) rfl; have c0_5 := (hS.1).at_ (j := 5) rfl; have c0_6 := (hS.1).at_ (j := 6) rfl; have c0_7 := (hS.1).at_ (j := 7) rfl; clear hS; first | (go_simp; done) | (go_simp; with_reducible rfl))
          try simp only [Act.put, List.setIfInBounds_toArray, List.set_cons_zero, List.set_cons_succ]
          refine wpAnyH_take (i := 2) (oi := ⟨some 23, _, _, _, _, _⟩) (v := ?_) rfl (by kernel_rfl) (by kernel_rfl) (by kernel_rfl) (fun _ _ _ h => h) (Or.inl ⟨by kernel_rfl, ?_⟩) hHeld ?_
          rotate_left
          focus (intro W hS; have c0_0 := (hS.1).at_ (j := 0) rfl; have c0_1 := (hS.1).at_ (j := 1) rfl; have c0_2 := (hS.1).at_ (j := 2) rfl; have c0_3 := (hS.1).at_ (j := 3) rfl; have c0_4 := (hS.1).at_ (j := 4) rfl; have c0_5 := (hS.1).at_ (j := 5) rfl; have c0_6 := (hS.1).at_ (j := 6) rfl; have c0_7 := (hS.1).at_ (j := 7) rfl; clear hS; first | (go_simp; done) | (go_simp; with_reducible rfl))
          try simp only [Act.put, List.setIfInBounds_toArray, List.set_cons_zero, List.set_cons_succ]
          refine wpAnyH_take (i := 3) (oi := ⟨some 24, _, _, _, _, _⟩) (v := undef) rfl (by kernel_rfl) (by kernel_rfl) (by kernel_rfl) (fun _ _ _ h => h) (Or.inr ⟨by kernel_rfl, rfl⟩) hHeld ?_
          try simp only [Act.put, List.setIfInBounds_toArray, List.set_cons_zero, List.set_cons_succ]
          refine wpAnyH_take (i := 4) (oi := ⟨some 25, _, _, _, _, _⟩) (v := undef) rfl (by kernel_rfl) (by kernel_rfl) (by kernel_rfl) (fun _ _ _ h => h) (Or.inr ⟨by kernel_rfl, rfl⟩) hHeld ?_
          try simp only [Act.put, List.setIfInBounds_toArray, List.set_cons_zero, List.set_cons_succ]
          refine wpAnyH_take (i := 5) (oi := ⟨some 26, _, _, _, _, _⟩) (v := undef) rfl (by kernel_rfl) (by kernel_rfl) (by kernel_rfl) (fun _ _ _ h => h) (Or.inr ⟨by kernel_rfl, rfl⟩) hHeld ?_
          try simp only [Act.put, List.setIfInBounds_toArray, List.set_cons_zero, List.set_cons_succ]
          refine wpAnyH_take (i := 6) (oi := ⟨some 27, _, _, _, _, _⟩) (v := undef) rfl (by kernel_rfl) (by kernel_rfl) (by kernel_rfl) (fun _ _ _ h => h) (Or.inr ⟨by kernel_rfl, rfl⟩) hHeld ?_
          try simp only [Act.put, List.setIfInBounds_toArray, List.set_cons_zero, List.set_cons_succ]
          refine wpAnyH_take (i := 7) (oi := ⟨some 28, _, _, _, _, _⟩) (v := undef) rfl (by kernel_rfl) (by kernel_rfl) (by kernel_rfl) (fun _ _ _ h => h) (Or.inr ⟨by kernel_rfl, rfl⟩) hHeld ?_
          try simp only [Act.put, List.setIfInBounds_toArray, List.set_cons_zero, List.set_cons_succ]
          refine wpAnyH_take (i := 8) (oi := ⟨some 29, _, _, _, _, _⟩) (v := undef) rfl (by kernel_rfl) (by kernel_rfl) (by kernel_rfl) (fun _ _ _ h => h) (Or.inr ⟨by kernel_rfl, rfl⟩) hHeld ?_
          try simp only [Act.put, List.setIfInBounds_toArray, List.set_cons_zero, List.set_cons_succ]
          refine wpAnyH_take (i := 9) (oi := ⟨some 30, _, _, _, _, _⟩) (v := undef) rfl (by kernel_rfl) (by kernel_rfl) (by kernel_rfl) (fun _ _ _ h => h) (Or.inr ⟨by kernel_rfl, rfl⟩) hHeld ?_
          try simp only [Act.put, List.setIfInBounds_toArray, List.set_cons_zero, List.set_cons_succ]
          refine wpAnyH_take (i := 10) (oi := ⟨some 31, _, _, _, _, _⟩) (v := ?_) rfl (by kernel_rfl) (by kernel_rfl) (by kernel_rfl) (fun _ _ _ h => h) (Or.inl ⟨by kernel_rfl, ?_⟩) hHeld ?_
          rotate_left
          focus (intro W hS; have c0_0 := (hS.1).at_ (j := 0) rfl; have c0_1 := (hS.1).at_ (j := 1) rfl; have c0_2 := (hS.1).at_ (j := 2) rfl; have c0_3 := (hS.1).at_ (j := 3) rfl; have c0_4 := (hS.1).at_ (j := 4) rfl; have c0_5 := (hS.1).at_ (j := 5) rfl; have c0_6 := (hS.1).at_ (j := 6) rfl; have c0_7 := (hS.1).at_ (j := 7) rfl; clear hS; first | (go_simp; done) | (go_simp; with_reducible rfl))
          try simp only [Act.put, List.setIfInBounds_toArray, List.set_cons_zero, List.set_cons_succ]
          refine wpAnyH_done (by kernel_rfl) ?_ _
          go_wp2_with fail
          go_roundg (n - (k + 1))
          case measure => omega
          case rel => exact ⟨k + 1, (k : Int), by omega, by omega, by go_num, by first | rfl | go_num, HE, Lib.hid (below_trans HB.out hHeld.2 (Nat.le_refl _))⟩
        · obtain ⟨m, rfl⟩ : ∃ m : Nat, z = m := ⟨z.toNat, by omega⟩
          have hm : m < n := by omega
          obtain ⟨y, hy⟩ : ∃ y, l[m]? = some y := ⟨l[m]'(by have := HL.out; omega), List.getElem?_eq_getElem _⟩
          have hd := HD.out m y hy hm
          have d0 : wr.cell? ⟨b, off + m * 8, none⟩ = _ := hd 0 _ rfl
          have d1 : wr.cell? ⟨b, off + m * 8 + 1, none⟩ = _ := hd 1 _ rfl
          have d2 : wr.cell? ⟨b, off + m * 8 + 2, none⟩ = _ := hd 2 _ rfl
          have d3 : wr.cell? ⟨b, off + m * 8 + 3, none⟩ = _ := hd 3 _ rfl
          have d4 : wr.cell? ⟨b, off + m * 8 + 4, none⟩ = _ := hd 4 _ rfl
          have d5 : wr.cell? ⟨b, off + m * 8 + 5, none⟩ = _ := hd 5 _ rfl
          have d6 : wr.cell? ⟨b, off + m * 8 + 6, none⟩ = _ := hd 6 _ rfl
          have d7 : wr.cell? ⟨b, off + m * 8 + 7, none⟩ = _ := hd 7 _ rfl
          have HEt := Lib.hid (best_yes HZ.out hq HZb.out hy)
          have HEf := Lib.hid (best_less HZ.out hq HZb.out hy)
          have C1 := fun W => impl_IsBefore x y W
          generalize mIsBefore x y = r2 at HEt HEf C1
          replace C1 := Lib.hid C1
          have hg1 : decide ((m : Int) < 0) = false := by simp
          clear hq hy hd hzb
          go_wp2_with (go_at_call 140; refine Calls.mono HCl.out ?_; rintro e w1 ⟨rfl, hb1⟩; (have KB := Lib.hid ((box_new wr 165 #[.int .i64 x.f0, .int .i64 x.f1, .int .i64 x.f2, .int .i64 x.f3, .int .i64 x.f4, .int .i64 x.f5, .int .i64 x.f6, .int .i64 x.f7]).new hb1)); (have HBq := Lib.hid (below_trans ((Below.refl _ _).alloc (Nat.le_refl _) _) hb1 (by simp) : Below wr.heap.size wr w1)); (have hzz : wr.heap.size < w1.heap.size := KB.out.lt); clear hb1)
          refine wp_region_held_drew (S := fun w' => BoxAt w' wr.heap.size 165 #[.int .i64 x.f0, .int .i64 x.f1, .int .i64 x.f2, .int .i64 x.f3, .int .i64 x.f4, .int .i64 x.f5, .int .i64 x.f6, .int .i64 x.f7] ∧ Below wr.heap.size wr w') (by kernel_rfl) ?_ (fun hHeld => ?_)
          · exact ⟨KB.out.drw, HBq.out.drew⟩
          refine wpAnyH_take (i := 0) (oi := ⟨some 21, _, _, _, _, _⟩) (v := ?_) rfl (by kernel_rfl) (by kernel_rfl) (by kernel_rfl) (fun _ _ _ h => h) (Or.inl ⟨by kernel_rfl, ?_⟩) hHeld ?_
          rotate_left
          focus (intro W hS; have c0_0 := (hS.1).at_ (j := 0) rfl; have c0_1 := (hS.1).at_ (j := 1) rfl; have c0_2 := (hS.1).at_ (j := 2) rfl; have c0_3 := (hS.1).at_ (j := 3) rfl; have c0_4 := (hS.1).at_ (j := 4) rfl; have c0_5 := (hS.1).at_ (j := 5) rfl; have c0_6 := (hS.1).at_ (j := 6) rfl; have c0_7 := (hS.1).at_ (j := 7) rfl; have d0' := cell_nw hS.2 d0; have d1' := cell_nw hS.2 d1; have d2' := cell_nw hS.2 d2; have d3' := cell_nw hS.2 d3; have d4' := cell_nw hS.2 d4; have d5' := cell_nw hS.2 d5; have d6' := cell_nw hS.2 d6; have d7' := cell_nw hS.2 d7; clear hS; first | (go_simp; done) | (go_simp; with_reducible rfl))
          try simp only [Act.put, List.setIfInBounds_toArray, List.set_cons_zero, List.set_cons_succ]
          refine wpAnyH_take (i := 1) (oi := ⟨some 22, _, _, _, _, _⟩) (v := ?_) rfl (by kernel_rfl) (by kernel_rfl) (by kernel_rfl) (fun _ _ _ h => h) (Or.inl ⟨by kernel_rfl, ?_⟩) hHeld ?_
          rotate_left
          focus (intro W hS; have c0_0 := (hS.1).at_ (j := 0) rfl; have c0_1 := (hS.1).at_ (j := 1) rfl; have c0_2 := (hS.1).at_ (j := 2) rfl; have c0_3 := (hS.1).at_ (j := 3) rfl; have c0_4 := (hS.1).at_ (j := 4) rfl; have c0_5 := (hS.1).at_ (j := 5) rfl; have c0_6 := (hS.1).at_ (j := 6) rfl; have c0_7 := (hS.1).at_ (j := 7) rfl; have d0' := cell_nw hS.2 d0; have d1' := cell_nw hS.2 d1; have d2' := cell_nw hS.2 d2; have d3' := cell_nw hS.2 d3; have d4' := cell_nw hS.2 d4; have d5' := cell_nw hS.2 d5; have d6' := cell_nw hS.2 d6; have d7' := cell_nw hS.2 d7; clear hS; first | (go_simp; done) | (go_simp; with_reducible rfl))
          try simp only [Act.put, List.setIfInBounds_toArray, List.set_cons_zero, List.set_cons_succ]
          refine wpAnyH_take (i := 2) (oi := ⟨some 23, _, _, _, _, _⟩) (v := ?_) rfl (by kernel_rfl) (by kernel_rfl) (by kernel_rfl) (fun _ _ _ h => h) (Or.inl ⟨by kernel_rfl, ?_⟩) hHeld ?_
          rotate_left
          focus (intro W hS; have c0_0 := (hS.1).at_ (j := 0) rfl; have c0_1 := (hS.1).at_ (j := 1) rfl; have c0_2 := (hS.1).at_ (j := 2) rfl; have c0_3 := (hS.1).at_ (j := 3) rfl; have c0_4 := (hS.1).at_ (j := 4) rfl; have c0_5 := (hS.1).at_ (j := 5) rfl; have c0_6 := (hS.1).at_ (j := 6) rfl; have c0_7 := (hS.1).at_ (j := 7) rfl; have d0' := cell_nw hS.2 d0; have d1' := cell_nw hS.2 d1; have d2' := cell_nw hS.2 d2; have d3' := cell_nw hS.2 d3; have d4' := cell_nw hS.2 d4; have d5' := cell_nw hS.2 d5; have d6' := cell_nw hS.2 d6; have d7' := cell_nw hS.2 d7; clear hS; first | (go_simp; done) | (go_simp; with_reducible rfl))
          try simp only [Act.put, List.setIfInBounds_toArray, List.set_cons_zero, List.set_cons_succ]
          refine wpAnyH_take (i := 3) (oi := ⟨some 24, _, _, _, _, _⟩) (v := ?_) rfl (by kernel_rfl) (by kernel_rfl) (by kernel_rfl) (fun _ _ _ h => h) (Or.inl ⟨by kernel_rfl, ?_⟩) hHeld ?_
          rotate_left
          focus (intro W hS; have c0_0 := (hS.1).at_ (j := 0) rfl; have c0_1 := (hS.1).at_ (j := 1) rfl; have c0_2 := (hS.1).at_ (j := 2) rfl; have c0_3 := (hS.1).at_ (j := 3) rfl; have c0_4 := (hS.1).at_ (j := 4) rfl; have c0_5 := (hS.1).at_ (j := 5) rfl; have c0_6 := (hS.1).at_ (j := 6) rfl; have c0_7 := (hS.1).at_ (j := 7) rfl; have d0' := cell_nw hS.2 d0; have d1' := cell_nw hS.2 d1; have d2' := cell_nw hS.2 d2; have d3' := cell_nw hS.2 d3; have d4' := cell_nw hS.2 d4; have d5' := cell_nw hS.2 d5; have d6' := cell_nw hS.2 d6; have d7' := cell_nw hS.2 d7; clear hS; first | (go_simp; done) | (go_simp; with_reducible rfl))
          try simp only [Act.put, List.setIfInBounds_toArray, List.set_cons_zero, List.set_cons_succ]
          refine wpAnyH_take (i := 4) (oi := ⟨some 25, _, _, _, _, _⟩) (v := ?_) rfl (by kernel_rfl) (by kernel_rfl) (by kernel_rfl) (fun _ _ _ h => h) (Or.inl ⟨by kernel_rfl, ?_⟩) hHeld ?_
          rotate_left
          focus (intro W hS; have c0_0 := (hS.1).at_ (j := 0) rfl; have c0_1 := (hS.1).at_ (j := 1) rfl; have c0_2 := (hS.1).at_ (j := 2) rfl; have c0_3 := (hS.1).at_ (j := 3) rfl; have c0_4 := (hS.1).at_ (j := 4) rfl; have c0_5 := (hS.1).at_ (j := 5) rfl; have c0_6 := (hS.1).at_ (j := 6) rfl; have c0_7 := (hS.1).at_ (j := 7) rfl; have d0' := cell_nw hS.2 d0; have d1' := cell_nw hS.2 d1; have d2' := cell_nw hS.2 d2; have d3' := cell_nw hS.2 d3; have d4' := cell_nw hS.2 d4; have d5' := cell_nw hS.2 d5; have d6' := cell_nw hS.2 d6; have d7' := cell_nw hS.2 d7; clear hS; first | (go_simp; done) | (go_simp; with_reducible rfl))
          try simp only [Act.put, List.setIfInBounds_toArray, List.set_cons_zero, List.set_cons_succ]
          refine wpAnyH_take (i := 5) (oi := ⟨some 26, _, _, _, _, _⟩) (v := ?_) rfl (by kernel_rfl) (by kernel_rfl) (by kernel_rfl) (fun _ _ _ h => h) (Or.inl ⟨by kernel_rfl, ?_⟩) hHeld ?_
          rotate_left
          focus (intro W hS; have c0_0 := (hS.1).at_ (j := 0) rfl; have c0_1 := (hS.1).at_ (j := 1) rfl; have c0_2 := (hS.1).at_ (j := 2) rfl; have c0_3 := (hS.1).at_ (j := 3) rfl; have c0_4 := (hS.1).at_ (j := 4) rfl; have c0_5 := (hS.1).at_ (j := 5) rfl; have c0_6 := (hS.1).at_ (j := 6) rfl; have c0_7 := (hS.1).at_ (j := 7) rfl; have d0' := cell_nw hS.2 d0; have d1' := cell_nw hS.2 d1; have d2' := cell_nw hS.2 d2; have d3' := cell_nw hS.2 d3; have d4' := cell_nw hS.2 d4; have d5' := cell_nw hS.2 d5; have d6' := cell_nw hS.2 d6; have d7' := cell_nw hS.2 d7; clear hS; first | (go_simp; done) | (go_simp; with_reducible rfl))
          try simp only [Act.put, List.setIfInBounds_toArray, List.set_cons_zero, List.set_cons_succ]
          refine wpAnyH_take (i := 6) (oi := ⟨some 27, _, _, _, _, _⟩) (v := ?_) rfl (by kernel_rfl) (by kernel_rfl) (by kernel_rfl) (fun _ _ _ h => h) (Or.inl ⟨by kernel_rfl, ?_⟩) hHeld ?_
          rotate_left
          focus (intro W hS; have c0_0 := (hS.1).at_ (j := 0) rfl; have c0_1 := (hS.1).at_ (j := 1) rfl; have c0_2 := (hS.1).at_ (j := 2) rfl; have c0_3 := (hS.1).at_ (j := 3) rfl; have c0_4 := (hS.1).at_ (j := 4) rfl; have c0_5 := (hS.1).at_ (j := 5) rfl; have c0_6 := (hS.1).at_ (j := 6) rfl; have c0_7 := (hS.1).at_ (j := 7) rfl; have d0' := cell_nw hS.2 d0; have d1' := cell_nw hS.2 d1; have d2' := cell_nw hS.2 d2; have d3' := cell_nw hS.2 d3; have d4' := cell_nw hS.2 d4; have d5' := cell_nw hS.2 d5; have d6' := cell_nw hS.2 d6; have d7' := cell_nw hS.2 d7; clear hS; first | (go_simp; done) | (go_simp; with_reducible rfl))
          try simp only [Act.put, List.setIfInBounds_toArray, List.set_cons_zero, List.set_cons_succ]
          refine wpAnyH_take (i := 7) (oi := ⟨some 28, _, _, _, _, _⟩) (v := ?_) rfl (by kernel_rfl) (by kernel_rfl) (by kernel_rfl) (fun _ _ _ h => h) (Or.inl ⟨by kernel_rfl, ?_⟩) hHeld ?_
          rotate_left
          focus (intro W hS; have c0_0 := (hS.1).at_ (j := 0) rfl; have c0_1 := (hS.1).at_ (j := 1) rfl; have c0_2 := (hS.1).at_ (j := 2) rfl; have c0_3 := (hS.1).at_ (j := 3) rfl; have c0_4 := (hS.1).at_ (j := 4) rfl; have c0_5 := (hS.1).at_ (j := 5) rfl; have c0_6 := (hS.1).at_ (j := 6) rfl; have c0_7 := (hS.1).at_ (j := 7) rfl; have d0' := cell_nw hS.2 d0; have d1' := cell_nw hS.2 d1; have d2' := cell_nw hS.2 d2; have d3' := cell_nw hS.2 d3; have d4' := cell_nw hS.2 d4; have d5' := cell_nw hS.2 d5; have d6' := cell_nw hS.2 d6; have d7' := cell_nw hS.2 d7; clear hS; first | (go_simp; done) | (go_simp; with_reducible rfl))
          try simp only [Act.put, List.setIfInBounds_toArray, List.set_cons_zero, List.set_cons_succ]
          refine wpAnyH_take (i := 8) (oi := ⟨some 29, _, _, _, _, _⟩) (v := ?_) rfl (by kernel_rfl) (by kernel_rfl) (by kernel_rfl) (fun _ _ _ h => h) (Or.inl ⟨by kernel_rfl, ?_⟩) hHeld ?_
          rotate_left
          focus (intro W hS; have c0_0 := (hS.1).at_ (j := 0) rfl; have c0_1 := (hS.1).at_ (j := 1) rfl; have c0_2 := (hS.1).at_ (j := 2) rfl; have c0_3 := (hS.1).at_ (j := 3) rfl; have c0_4 := (hS.1).at_ (j := 4) rfl; have c0_5 := (hS.1).at_ (j := 5) rfl; have c0_6 := (hS.1).at_ (j := 6) rfl; have c0_7 := (hS.1).at_ (j := 7) rfl; have d0' := cell_nw hS.2 d0; have d1' := cell_nw hS.2 d1; have d2' := cell_nw hS.2 d2; have d3' := cell_nw hS.2 d3; have d4' := cell_nw hS.2 d4; have d5' := cell_nw hS.2 d5; have d6' := cell_nw hS.2 d6; have d7' := cell_nw hS.2 d7; clear hS; first | (go_simp; done) | (go_simp; with_reducible rfl))
          try simp only [Act.put, List.setIfInBounds_toArray, List.set_cons_zero, List.set_cons_succ]
          refine wpAnyH_ready (rs := [9]) (by kernel_rfl) (by simp) ?_
          refine AllReadyH.cons (o := ⟨some 30, _, _, _, _, _⟩) rfl (fun K hK => ?_) AllReadyH.nil
          go_simp
          refine Calls.mono (C1.out _) ?_
          rintro e x1 ⟨rfl, hb1⟩
          refine hK.out _ _ ⟨hHeld.1.new hb1, below_trans hHeld.2 hb1 (Nat.le_refl _)⟩ (fun hHeld' => ?_)
          clear hK K hHeld hb1
          have hHeld := hHeld'
          clear hHeld'
          try simp only [Act.put, List.setIfInBounds_toArray, List.set_cons_zero, List.set_cons_succ]
          cases r2
          · skip
            refine wpAnyH_take (i := 10) (oi := ⟨some 31, _, _, _, _, _⟩) (v := ?_) rfl (by kernel_rfl) (by kernel_rfl) (by kernel_rfl) (fun _ _ _ h => h) (Or.inl ⟨by kernel_rfl, ?_⟩) hHeld ?_
            rotate_left
            focus (intro W hS; have c0_0 := (hS.1).at_ (j := 0) rfl; have c0_1 := (hS.1).at_ (j := 1) rfl; have c0_2 := (hS.1).at_ (j := 2) rfl; have c0_3 := (hS.1).at_ (j := 3) rfl; have c0_4 := (hS.1).at_ (j := 4) rfl; have c0_5 := (hS.1).at_ (j := 5) rfl; have c0_6 := (hS.1).at_ (j := 6) rfl; have c0_7 := (hS.1).at_ (j := 7) rfl; have d0' := cell_nw hS.2 d0; have d1' := cell_nw hS.2 d1; have d2' := cell_nw hS.2 d2; have d3' := cell_nw hS.2 d3; have d4' := cell_nw hS.2 d4; have d5' := cell_nw hS.2 d5; have d6' := cell_nw hS.2 d6; have d7' := cell_nw hS.2 d7; clear hS; first | (go_simp; done) | (go_simp; with_reducible rfl))
            try simp only [Act.put, List.setIfInBounds_toArray, List.set_cons_zero, List.set_cons_succ]
            refine wpAnyH_done (by kernel_rfl) ?_ _
            go_wp2_with fail
            go_roundg (n - (k + 1))
            case measure => omega
            case rel => exact ⟨k + 1, _, by omega, by omega, by go_num, by first | rfl | go_num, by first | exact Lib.hid (HEt.out (by simp)) | exact Lib.hid (HEf.out (by simp)), Lib.hid (below_trans HB.out hHeld.2 (Nat.le_refl _))⟩
          · skip
            refine wpAnyH_take (i := 10) (oi := ⟨some 31, _, _, _, _, _⟩) (v := ?_) rfl (by kernel_rfl) (by kernel_rfl) (by kernel_rfl) (fun _ _ _ h => h) (Or.inl ⟨by kernel_rfl, ?_⟩) hHeld ?_
            rotate_left
            focus (intro W hS; have c0_0 := (hS.1).at_ (j := 0) rfl; have c0_1 := (hS.1).at_ (j := 1) rfl; have c0_2 := (hS.1).at_ (j := 2) rfl; have c0_3 := (hS.1).at_ (j := 3) rfl; have c0_4 := (hS.1).at_ (j := 4) rfl; have c0_5 := (hS.1).at_ (j := 5) rfl; have c0_6 := (hS.1).at_ (j := 6) rfl; have c0_7 := (hS.1).at_ (j := 7) rfl; have d0' := cell_nw hS.2 d0; have d1' := cell_nw hS.2 d1; have d2' := cell_nw hS.2 d2; have d3' := cell_nw hS.2 d3; have d4' := cell_nw hS.2 d4; have d5' := cell_nw hS.2 d5; have d6' := cell_nw hS.2 d6; have d7' := cell_nw hS.2 d7; clear hS; first | (go_simp; done) | (go_simp; with_reducible rfl))
            try simp only [Act.put, List.setIfInBounds_toArray, List.set_cons_zero, List.set_cons_succ]
            refine wpAnyH_done (by kernel_rfl) ?_ _
            go_wp2_with fail
            go_roundg (n - (k + 1))
            case measure => omega
            case rel => exact ⟨k + 1, _, by omega, by omega, by go_num, by first | rfl | go_num, by first | exact Lib.hid (HEt.out (by simp)) | exact Lib.hid (HEf.out (by simp)), Lib.hid (below_trans HB.out hHeld.2 (Nat.le_refl _))⟩
    · obtain rfl : k = n := by omega
      have HE := Lib.hid (show bestOf p mIsBefore l l.length = z by rw [HL.out]; exact HZb.out)
      go_wp2_with fail
      go_ret
      exact ⟨by rw [HE.out]; rfl, HB.out⟩
end Go.Proofs.Ytfceddgacefejaa
