/- AreOps2, what is needed of it. -/
import Derived.Test.YtcankpiidjhhpaaYAreOps
import Derived.Deep.LoopGhost
namespace Go.Proofs.Ytcankpiidjhhpaa
open Go Go.ChangeShapes Go.WideShapes Go.ChangeAt Go.RowKit Go.Lib
set_option linter.unusedVariables false
set_option linter.unusedSimpArgs false
set_option maxRecDepth 100000
set_option maxHeartbeats 20000000 in
theorem spec_isOp' (x0 x1 x2 x3 : Int) (w : World) : Calls Try.prog 76 #[vOp ⟨x0, x1, x2, x3⟩] w (Says (.bool (mOp ⟨x0, x1, x2, x3⟩)) w) := by
 by_cases k1 : x0 = 1
 ·
  subst k1
  by_cases h0 : (inR x1 0 5) = true
  ·
   by_cases h1 : (inR x2 1 9) = true
   ·
    have HV := Lib.hid (show mOp ⟨1, x1, x2, x3⟩ = (x3 == 0) from by simp [mOp, mOp3, mReg, h0, h1])
    rw [HV.out]
    go_enter Try.func76, Try.ntmps76
    go_wp2_with (go_at_call 58; refine (spec_in _ _ _ _).mono ?_; rintro e w1 ⟨rfl, rfl⟩)
    go_ret
    exact ⟨by first | rfl | simp, by repeat (first | exact Below.refl _ _ | (refine Below.alloc ?_ (by first | omega | (simp <;> omega)) _))⟩
   ·
    have h1 : (inR x2 1 9) = false := by simpa using h1
    have HV := Lib.hid (show mOp ⟨1, x1, x2, x3⟩ = false from by simp [mOp, mOp3, mReg, h0, h1])
    rw [HV.out]
    go_enter Try.func76, Try.ntmps76
    go_wp2_with (go_at_call 58; refine (spec_in _ _ _ _).mono ?_; rintro e w1 ⟨rfl, rfl⟩)
    go_ret
    exact ⟨by first | rfl | simp, by repeat (first | exact Below.refl _ _ | (refine Below.alloc ?_ (by first | omega | (simp <;> omega)) _))⟩
  ·
   have h0 : (inR x1 0 5) = false := by simpa using h0
   have HV := Lib.hid (show mOp ⟨1, x1, x2, x3⟩ = false from by simp [mOp, mOp3, mReg, h0])
   rw [HV.out]
   go_enter Try.func76, Try.ntmps76
   go_wp2_with (go_at_call 58; refine (spec_in _ _ _ _).mono ?_; rintro e w1 ⟨rfl, rfl⟩)
   go_ret
   exact ⟨by first | rfl | simp, by repeat (first | exact Below.refl _ _ | (refine Below.alloc ?_ (by first | omega | (simp <;> omega)) _))⟩
 ·
  have q1 : (x0 == 1) = false := by simpa using k1
  by_cases k5 : x0 = 5
  ·
   subst k5
   by_cases h0 : (inR x1 0 5) = true
   ·
    by_cases h1 : (inR x2 1 9) = true
    ·
     have HV := Lib.hid (show mOp ⟨5, x1, x2, x3⟩ = (x3 == 0) from by simp [mOp, mOp3, mReg, h0, h1])
     rw [HV.out]
     go_enter Try.func76, Try.ntmps76
     go_wp2_with (go_at_call 58; refine (spec_in _ _ _ _).mono ?_; rintro e w1 ⟨rfl, rfl⟩)
     go_ret
     exact ⟨by first | rfl | simp, by repeat (first | exact Below.refl _ _ | (refine Below.alloc ?_ (by first | omega | (simp <;> omega)) _))⟩
    ·
     have h1 : (inR x2 1 9) = false := by simpa using h1
     have HV := Lib.hid (show mOp ⟨5, x1, x2, x3⟩ = false from by simp [mOp, mOp3, mReg, h0, h1])
     rw [HV.out]
     go_enter Try.func76, Try.ntmps76
     go_wp2_with (go_at_call 58; refine (spec_in _ _ _ _).mono ?_; rintro e w1 ⟨rfl, rfl⟩)
     go_ret
     exact ⟨by first | rfl | simp, by repeat (first | exact Below.refl _ _ | (refine Below.alloc ?_ (by first | omega | (simp <;> omega)) _))⟩
   ·
    have h0 : (inR x1 0 5) = false := by simpa using h0
    have HV := Lib.hid (show mOp ⟨5, x1, x2, x3⟩ = false from by simp [mOp, mOp3, mReg, h0])
    rw [HV.out]
    go_enter Try.func76, Try.ntmps76
    go_wp2_with (go_at_call 58; refine (spec_in _ _ _ _).mono ?_; rintro e w1 ⟨rfl, rfl⟩)
    go_ret
    exact ⟨by first | rfl | simp, by repeat (first | exact Below.refl _ _ | (refine Below.alloc ?_ (by first | omega | (simp <;> omega)) _))⟩
  ·
   have q5 : (x0 == 5) = false := by simpa using k5
   by_cases k2 : x0 = 2
   ·
    subst k2
    by_cases h0 : (inR x1 0 5) = true
    ·
     by_cases h1 : (inR x2 0 999) = true
     ·
      have HV := Lib.hid (show mOp ⟨2, x1, x2, x3⟩ = (x3 == 0) from by simp [mOp, mOp3, mReg, h0, h1])
      rw [HV.out]
      go_enter Try.func76, Try.ntmps76
      go_wp2_with (go_at_call 58; refine (spec_in _ _ _ _).mono ?_; rintro e w1 ⟨rfl, rfl⟩)
      go_ret
      exact ⟨by first | rfl | simp, by repeat (first | exact Below.refl _ _ | (refine Below.alloc ?_ (by first | omega | (simp <;> omega)) _))⟩
     ·
      have h1 : (inR x2 0 999) = false := by simpa using h1
      have HV := Lib.hid (show mOp ⟨2, x1, x2, x3⟩ = false from by simp [mOp, mOp3, mReg, h0, h1])
      rw [HV.out]
      go_enter Try.func76, Try.ntmps76
      go_wp2_with (go_at_call 58; refine (spec_in _ _ _ _).mono ?_; rintro e w1 ⟨rfl, rfl⟩)
      go_ret
      exact ⟨by first | rfl | simp, by repeat (first | exact Below.refl _ _ | (refine Below.alloc ?_ (by first | omega | (simp <;> omega)) _))⟩
    ·
     have h0 : (inR x1 0 5) = false := by simpa using h0
     have HV := Lib.hid (show mOp ⟨2, x1, x2, x3⟩ = false from by simp [mOp, mOp3, mReg, h0])
     rw [HV.out]
     go_enter Try.func76, Try.ntmps76
     go_wp2_with (go_at_call 58; refine (spec_in _ _ _ _).mono ?_; rintro e w1 ⟨rfl, rfl⟩)
     go_ret
     exact ⟨by first | rfl | simp, by repeat (first | exact Below.refl _ _ | (refine Below.alloc ?_ (by first | omega | (simp <;> omega)) _))⟩
   ·
    have q2 : (x0 == 2) = false := by simpa using k2
    by_cases k3 : x0 = 3
    ·
     subst k3
     by_cases h0 : (inR x1 0 5) = true
     ·
      by_cases h1 : (inR x2 0 5) = true
      ·
       have HV := Lib.hid (show mOp ⟨3, x1, x2, x3⟩ = (inR x3 0 5) from by simp [mOp, mOp3, mReg, h0, h1])
       rw [HV.out]
       go_enter Try.func76, Try.ntmps76
       go_wp2_with (go_at_call 58; refine (spec_in _ _ _ _).mono ?_; rintro e w1 ⟨rfl, rfl⟩)
       go_ret
       exact ⟨by first | rfl | simp, by repeat (first | exact Below.refl _ _ | (refine Below.alloc ?_ (by first | omega | (simp <;> omega)) _))⟩
      ·
       have h1 : (inR x2 0 5) = false := by simpa using h1
       have HV := Lib.hid (show mOp ⟨3, x1, x2, x3⟩ = false from by simp [mOp, mOp3, mReg, h0, h1])
       rw [HV.out]
       go_enter Try.func76, Try.ntmps76
       go_wp2_with (go_at_call 58; refine (spec_in _ _ _ _).mono ?_; rintro e w1 ⟨rfl, rfl⟩)
       go_ret
       exact ⟨by first | rfl | simp, by repeat (first | exact Below.refl _ _ | (refine Below.alloc ?_ (by first | omega | (simp <;> omega)) _))⟩
     ·
      have h0 : (inR x1 0 5) = false := by simpa using h0
      have HV := Lib.hid (show mOp ⟨3, x1, x2, x3⟩ = false from by simp [mOp, mOp3, mReg, h0])
      rw [HV.out]
      go_enter Try.func76, Try.ntmps76
      go_wp2_with (go_at_call 58; refine (spec_in _ _ _ _).mono ?_; rintro e w1 ⟨rfl, rfl⟩)
      go_ret
      exact ⟨by first | rfl | simp, by repeat (first | exact Below.refl _ _ | (refine Below.alloc ?_ (by first | omega | (simp <;> omega)) _))⟩
    ·
     have q3 : (x0 == 3) = false := by simpa using k3
     by_cases k4 : x0 = 4
     ·
      subst k4
      by_cases h0 : (inR x1 0 5) = true
      ·
       by_cases h1 : (inR x2 0 5) = true
       ·
        have HV := Lib.hid (show mOp ⟨4, x1, x2, x3⟩ = (inR x3 0 5) from by simp [mOp, mOp3, mReg, h0, h1])
        rw [HV.out]
        go_enter Try.func76, Try.ntmps76
        go_wp2_with (go_at_call 58; refine (spec_in _ _ _ _).mono ?_; rintro e w1 ⟨rfl, rfl⟩)
        go_ret
        exact ⟨by first | rfl | simp, by repeat (first | exact Below.refl _ _ | (refine Below.alloc ?_ (by first | omega | (simp <;> omega)) _))⟩
       ·
        have h1 : (inR x2 0 5) = false := by simpa using h1
        have HV := Lib.hid (show mOp ⟨4, x1, x2, x3⟩ = false from by simp [mOp, mOp3, mReg, h0, h1])
        rw [HV.out]
        go_enter Try.func76, Try.ntmps76
        go_wp2_with (go_at_call 58; refine (spec_in _ _ _ _).mono ?_; rintro e w1 ⟨rfl, rfl⟩)
        go_ret
        exact ⟨by first | rfl | simp, by repeat (first | exact Below.refl _ _ | (refine Below.alloc ?_ (by first | omega | (simp <;> omega)) _))⟩
      ·
       have h0 : (inR x1 0 5) = false := by simpa using h0
       have HV := Lib.hid (show mOp ⟨4, x1, x2, x3⟩ = false from by simp [mOp, mOp3, mReg, h0])
       rw [HV.out]
       go_enter Try.func76, Try.ntmps76
       go_wp2_with (go_at_call 58; refine (spec_in _ _ _ _).mono ?_; rintro e w1 ⟨rfl, rfl⟩)
       go_ret
       exact ⟨by first | rfl | simp, by repeat (first | exact Below.refl _ _ | (refine Below.alloc ?_ (by first | omega | (simp <;> omega)) _))⟩
     ·
      have q4 : (x0 == 4) = false := by simpa using k4
      have HV := Lib.hid (show mOp ⟨x0, x1, x2, x3⟩ = false from by simp [mOp, k1, k2, k3, k4, k5])
      rw [HV.out]
      clear k1 k2 k3 k4 k5
      go_enter Try.func76, Try.ntmps76
      go_wp2_with (go_at_call 58; refine (spec_in _ _ _ _).mono ?_; rintro e w1 ⟨rfl, rfl⟩)
      go_ret
      exact ⟨rfl, (Below.refl _ _).alloc (Nat.le_refl _) _⟩

theorem spec_isOp (x : TOp) (w : World) : Calls Try.prog 76 #[vOp x] w (Says (.bool (mOp x)) w) := spec_isOp' x.f0 x.f1 x.f2 x.f3 w

theorem rd_tailOpA {w : World} {lo hi n b off : Nat} {x : TOp} {l : List TOp} (h : Rd w lo hi 4 (some ⟨b, off, none⟩) (n + 1) (cOp (x :: l))) :
  Rd w lo hi 4 (some ⟨b, off + 4, none⟩) n (cOp l) := by
 have hc : cOp (x :: l) = TOp.cells x ++ cOp l := rfl
 refine ⟨?_, fun hn => ?_⟩
 ·
  have := h.1
  rw [hc, List.length_append, TOp.len] at this
  omega
 ·
  obtain ⟨b', off', e, h1, h2, h3⟩ := h.2 (by omega)
  cases e
  refine ⟨b, off + 4, rfl, h1, h2, fun j u hu => ?_⟩
  rw [Nat.add_assoc]
  refine h3 (4 + j) u ?_
  rw [hc, List.getElem?_append_right (by rw [TOp.len]; omega), TOp.len]
  simpa using hu

set_option maxHeartbeats 4000000 in
theorem any_OpA (p : TOp → Bool) (lb : Array Value) (l : List TOp) (A : Option Addr) (n c lo hi : Nat) (w : World) (hn : n ≤ 17592186044416) (hcap : n ≤ c)
  (hr : Rd w lo hi 4 A n (cOp l)) (hp : PredB Try.prog 108 lb (fun x : TOp => .agg #[.int .i64 x.f0, .int .i64 x.f1, .int .i64 x.f2, .int .i64 x.f3]) p l w) :
  Calls Try.prog 107 #[.slice A n c, .func (.func 108) #[] lb] w (Says (.bool (l.any p)) w) := by
 have HR := Lib.hid hr
 have HP := Lib.hid hp
 clear hr hp
 go_enter Try.func107, Try.ntmps107
 go_wp2_with fail
 go_loopg [0] n (fun gg v wr => ∃ (A' : Option Addr) (n' c' : Nat) (l' : List TOp), v = .slice A' n' c' ∧ n' ≤ gg ∧ n' ≤ n ∧ n' ≤ c' ∧ Hid (Rd wr lo hi 4 A' n' (cOp l')) ∧ Hid (∀ x, x ∈ l' → x ∈ l) ∧ Hid (l.any p = l'.any p) ∧ Hid (Below w.heap.size w wr))
 case atStart => exact ⟨_, _, _, l, rfl, Nat.le_refl _, Nat.le_refl _, hcap, HR, Lib.hid (fun _ h => h), Lib.hid rfl, Lib.hid (Below.refl _ _)⟩
 case round =>
  obtain ⟨A', n', c', l', rfl, hg, hn', hcc, HR', HM, HA, HB⟩ := hrel
  cases l' with
  | nil =>
   obtain rfl : n' = 0 := by have := HR'.out.1; simp at this; omega
   have HE := Lib.hid (show l.any p = false from HA.out)
   go_wp2_with fail
   go_ret
   exact ⟨by rw [HE.out]; rfl, HB.out⟩
  | cons x t =>
   have HL := Lib.hid (rd_len TOp.len HR'.out (by decide))
   obtain ⟨m, rfl⟩ : ∃ m, n' = m + 1 := ⟨t.length, by have := HL.out; simp at this; omega⟩
   obtain ⟨b, off, x', rfl, _, _, hz, hc⟩ := rd_elem (k := 0) TOp.len HR'.out HL.out (by omega)
   obtain rfl : x = x' := by simpa using hz
   have c0 : wr.cell? ⟨b, off, none⟩ = some (.int .i64 x.f0) := by simpa using hc 0 _ rfl
   have c1 : wr.cell? ⟨b, off + 1, none⟩ = some (.int .i64 x.f1) := by simpa using hc 1 _ rfl
   have c2 : wr.cell? ⟨b, off + 2, none⟩ = some (.int .i64 x.f2) := by simpa using hc 2 _ rfl
   have c3 : wr.cell? ⟨b, off + 3, none⟩ = some (.int .i64 x.f3) := by simpa using hc 3 _ rfl
   have HT := Lib.hid (rd_tailOpA HR'.out)
   have hcall := HP.out wr x (HM.out x (by simp)) HB.out
   have HMt := Lib.hid (fun y (h : y ∈ t) => HM.out y (List.mem_cons_of_mem _ h))
   clear hc hz HR' HM
   cases hq : p x with
   | true =>
    rw [hq] at hcall
    have HE := Lib.hid (show l.any p = true by rw [HA.out, List.any_cons, hq]; rfl)
    clear hq HA
    go_wp2_with (go_at_call 108; refine hcall.mono ?_; rintro e w1 ⟨rfl, hb1⟩; have HB1 := Lib.hid hb1; clear hb1)
    go_ret
    exact ⟨by rw [HE.out]; rfl, below_trans HB.out HB1.out (Nat.le_refl _)⟩
   | false =>
    rw [hq] at hcall
    have HE := Lib.hid (show l.any p = t.any p by rw [HA.out, List.any_cons, hq]; rfl)
    clear hq HA
    rcases Nat.eq_zero_or_pos m with rfl | hm
    ·
     obtain rfl : t = [] := by have := HL.out; simpa using this
     go_wp2_with (go_at_call 108; refine hcall.mono ?_; rintro e w1 ⟨rfl, hb1⟩; have HB1 := Lib.hid hb1; clear hb1)
     go_roundg 0
     case measure => omega
     case rel => exact ⟨_, _, _, [], rfl, Nat.le_refl _, by omega, by omega, Lib.hid Rd.empty, HMt, HE, Lib.hid (below_trans HB.out HB1.out (Nat.le_refl _))⟩
    ·
     go_wp2_with (go_at_call 108; refine hcall.mono ?_; rintro e w1 ⟨rfl, hb1⟩; have HB1 := Lib.hid hb1; clear hb1)
     go_roundg m
     case measure => omega
     case rel => exact ⟨_, _, _, t, rfl, by omega, by omega, by omega, Lib.hid (HT.out.new HB1.out), HMt, HE, Lib.hid (below_trans HB.out HB1.out (Nat.le_refl _))⟩

theorem nots_OpA (p : TOp → Bool) (lb : Array Value) (l : List TOp) (B : Nat) (w : World) (hq : w.cell? ⟨B, 0, none⟩ = some (.func (.func 75) #[] lb))
  (hp : PredB Try.prog 75 lb (fun x : TOp => .agg #[.int .i64 x.f0, .int .i64 x.f1, .int .i64 x.f2, .int .i64 x.f3]) p l w) : PredB Try.prog 108 #[.pointer (some ⟨B, 0, none⟩)] (fun x : TOp => .agg #[.int .i64 x.f0, .int .i64 x.f1, .int .i64 x.f2, .int .i64 x.f3]) (fun x => !p x) l w := fun W x hx hb => by
 have c0 := cell_nw hb hq
 have HC := Lib.hid (show Calls Try.prog 75 (#[.agg #[.int .i64 x.f0, .int .i64 x.f1, .int .i64 x.f2, .int .i64 x.f3]] ++ lb) (W.alloc (.cells #[.int .i64 x.f0, .int .i64 x.f1, .int .i64 x.f2, .int .i64 x.f3] 49)) _ from hp _ x hx (hb.alloc (by have := hb.size; omega) _))
 have m0 : B < W.heap.size := World.block_lt_of_cell? _ _ c0
 have n0 : B ≠ W.heap.size := Nat.ne_of_lt m0
 clear hb hq hp
 change Calls Try.prog _ #[.agg #[.int .i64 x.f0, .int .i64 x.f1, .int .i64 x.f2, .int .i64 x.f3], .pointer (some ⟨B, 0, none⟩)] _ (Says (.bool (!p x)) W)
 generalize p x = q at HC ⊢
 cases q
 all_goals
  go_enter Try.func108, Try.ntmps108
  go_wp2_with (go_at_call 75; refine HC.out.mono ?_; rintro e w1 ⟨rfl, hb1⟩; have HB1 := Lib.hid (below_trans ((Below.refl _ _).alloc (Nat.le_refl _) _) hb1 (by simp)); clear hb1)
  go_ret
  exact ⟨rfl, HB1.out⟩
set_option maxHeartbeats 4000000 in
theorem all_OpA (p : TOp → Bool) (lb : Array Value) (l : List TOp) (A : Option Addr) (n c lo hi : Nat) (w : World) (hn : n ≤ 17592186044416) (hcap : n ≤ c)
  (hr : Rd w lo hi 4 A n (cOp l)) (hp : PredB Try.prog 75 lb (fun x : TOp => .agg #[.int .i64 x.f0, .int .i64 x.f1, .int .i64 x.f2, .int .i64 x.f3]) p l w) :
  Calls Try.prog 74 #[.slice A n c, .func (.func 75) #[] lb] w (Says (.bool (l.all p)) w) := by
 have hmf : ∀ (fn : Fn) (first cap : Array Value) (w : World), (Instr.makeFunc fn first cap).run Try.prog w = .ok (.func fn first cap) w := fun _ _ _ _ => rfl
 have HC := any_OpA (fun x => !p x) #[.pointer (some ⟨w.heap.size, 0, none⟩)] l A n c lo hi (w.alloc (.cells #[.func (.func 75) #[] lb] 106)) hn hcap (hr.alloc _)
  (nots_OpA p lb l w.heap.size _ (cell_newest (by simp) rfl) (fun W x hx hb => hp W x hx (below_trans ((Below.refl _ _).alloc (Nat.le_refl _) _) hb (by simp))))
 have hE : l.all p = !(l.any fun x => !p x) := by rw [List.all_eq_not_any_not]
 rw [hE]
 clear hr hp hE
 generalize (l.any fun x => !p x) = q at HC ⊢
 have HC := Lib.hid HC
 cases q
 all_goals
  go_enter Try.func74, Try.ntmps74
  go_wp2_with fail
  refine HC.out.mono ?_
  rintro e w1 ⟨rfl, hb1⟩
  have HB1 := Lib.hid (below_trans ((Below.refl _ _).alloc (Nat.le_refl _) _) hb1 (by simp))
  clear hb1
  go_wp2_with fail
  go_ret
  exact ⟨rfl, HB1.out⟩

theorem all_step3 {α : Type} {p : α → Bool} {l : List α} {k : Nat} {x : α} (h : (l.take k).all p = true) (hz : l[k]? = some x) (hq : p x = true) : (l.take (k + 1)).all p = true := by
 rw [List.take_add_one, hz, List.all_append, h]; simp [hq]
theorem all_fails3 {α : Type} {p : α → Bool} {l : List α} {k : Nat} {x : α} (hz : l[k]? = some x) (hq : p x = false) : l.all p = false :=
 List.all_eq_false.2 ⟨x, mem_of_get hz, by rw [hq]; decide⟩
set_option maxHeartbeats 8000000 in
theorem impl_AreOpsC (l : List TOp) (A : Option Addr) (n c lo hi : Nat) (w : World) (hn : n ≤ 1048576) (hr : Rd w lo hi 4 A n (cOp l)) (hcap : n ≤ c) (H : Hid (cOpOk l)) :
  Calls Try.prog 21 #[.slice A n c] w (Says (.bool (mAreOps l)) w) := by
 have HL := rd_len TOp.len hr (by decide)
 have CA := all_OpA mOp #[] l A n c lo hi w (by omega) hcap hr (fun W x _ _ => impl_isOp x W)
 have HM := Lib.hid (show mAreOps l = (decide (n ≤ 16) && l.all mOp) by unfold mAreOps; rw [HL])
 rw [HM.out]
 clear HM HL hr
 generalize l.all mOp = b0 at CA ⊢
 replace CA := Lib.hid CA
 by_cases h16 : n ≤ 16
 ·
  have g0 : decide ((n : Int) ≤ 16) = true := by simp; omega
  have HV := Lib.hid (show (decide (n ≤ 16) && b0) = b0 by simp [h16])
  rw [HV.out]
  cases b0
  all_goals
   go_enter Try.func21, Try.ntmps21
   go_wp2_with fail
   refine Calls.mono CA.out ?_
   rintro e w1 ⟨rfl, hb1⟩
   have HB1 := Lib.hid hb1
   clear hb1
   go_wp2_with fail
   go_ret
   exact ⟨rfl, HB1.out⟩
 ·
  have g0 : decide ((n : Int) ≤ 16) = false := by simp; omega
  have HV := Lib.hid (show (decide (n ≤ 16) && b0) = false by simp [h16])
  rw [HV.out]
  go_enter Try.func21, Try.ntmps21
  go_wp2_with fail
  go_ret
  exact ⟨rfl, Below.refl _ _⟩

set_option maxHeartbeats 8000000 in
theorem spec_AreOps (l : List TOp) (A : Option Addr) (n c lo hi : Nat) (w : World) (hn : n ≤ 1048576) (hr : Rd w lo hi 4 A n (cOp l)) (hcap : n ≤ c) (H : Hid (cOpOk l)) :
  Calls Try.prog 22 #[.slice A n c] w (Says (.bool (mAreOps l)) w) := by
 have HL := Lib.hid (rd_len TOp.len hr (by decide))
 have HR := Lib.hid hr
 have HM := Lib.hid (show mAreOps l = (decide (n ≤ 16) && l.all mOp) by unfold mAreOps; rw [HL.out])
 rw [HM.out]
 clear HM hr
 generalize hp : mOp = p
 have HP := Lib.hid hp
 clear hp
 go_enter Try.func22, Try.ntmps22
 go_wp2_with fail
 go_loopg [3] n (fun gg i wr => ∃ k : Nat, k ≤ n ∧ n - k ≤ gg ∧ i = .int .i64 k ∧ Hid (Below w.heap.size w wr) ∧ Hid ((l.take k).all p = true))
 case atStart => exact ⟨0, Nat.zero_le _, by omega, rfl, Lib.hid (Below.refl _ _), Lib.hid (by simp)⟩
 case round =>
  obtain ⟨k, hk, hg, rfl, HB, HF⟩ := hrel
  by_cases hlt : k < n
  ·
   obtain ⟨b, off, x, rfl, _, _, hz, hc⟩ := rd_elem TOp.len (HR.out.new HB.out) HL.out hlt
   have c0 : wr.cell? ⟨b, off + k * 4, none⟩ = some (.int .i64 x.f0) := hc 0 _ rfl
   have c1 : wr.cell? ⟨b, off + k * 4 + 1, none⟩ = some (.int .i64 x.f1) := hc 1 _ rfl
   have c2 : wr.cell? ⟨b, off + k * 4 + 2, none⟩ = some (.int .i64 x.f2) := hc 2 _ rfl
   have c3 : wr.cell? ⟨b, off + k * 4 + 3, none⟩ = some (.int .i64 x.f3) := hc 3 _ rfl
   have HZ := Lib.hid hz
   have C0 := fun W => spec_isOp x W
   have hpx : mOp x = p x := by rw [← HP.out]
   clear hz hc
   generalize mOp x = b0 at C0 hpx
   replace C0 := Lib.hid C0
   replace hpx := Lib.hid hpx
   cases b0
   ·
    go_wp2_with fail
    refine Calls.mono (C0.out _) ?_
    rintro e w1 ⟨rfl, hb1⟩
    have HB1 := Lib.hid (below_trans HB.out hb1 (Nat.le_refl _))
    clear hb1
    go_wp2_with fail
    go_ret
    exact ⟨by rw [all_fails3 HZ.out hpx.out.symm, Bool.and_false]; rfl, HB1.out⟩
   ·
    go_wp2_with fail
    refine Calls.mono (C0.out _) ?_
    rintro e w1 ⟨rfl, hb1⟩
    have HB1 := Lib.hid (below_trans HB.out hb1 (Nat.le_refl _))
    clear hb1
    go_wp2_with fail
    go_roundg (n - (k + 1))
    case measure => omega
    case rel => exact ⟨k + 1, by omega, by omega, by go_num, HB1, Lib.hid (all_step3 HF.out HZ.out hpx.out.symm)⟩
  ·
   obtain rfl : k = n := by omega
   have HE := Lib.hid (show l.all p = true by have := HF.out; rwa [List.take_of_length_le (by have := HL.out; omega)] at this)
   by_cases h16 : k ≤ 16
   ·
    have g0 : decide ((k : Int) ≤ 16) = true := by simp; omega
    go_wp2_with fail
    go_ret
    exact ⟨by rw [HE.out, decide_eq_true h16]; rfl, HB.out⟩
   ·
    have g0 : decide ((k : Int) ≤ 16) = false := by simp; omega
    go_wp2_with fail
    go_ret
    exact ⟨by rw [HE.out, decide_eq_false h16]; rfl, HB.out⟩
end Go.Proofs.Ytcankpiidjhhpaa
