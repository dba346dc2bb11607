/- AreOps, what is needed of it. -/
import Derived.Test.YtcankpiidjhhpaaYTOp
import Derived.Test.YtcankpiidjhhpaaYGc
import Derived.Test.YtcankpiidjhhpaaYGa
import Derived.Deep.LoopGhost
namespace Go.Proofs.Ytcankpiidjhhpaa
open Go Go.ChangeShapes Go.WideShapes Go.ChangeAt Go.RowKit Go.Lib
set_option linter.unusedVariables false
set_option linter.unusedSimpArgs false
set_option maxRecDepth 100000
abbrev vOp (x : TOp) : Value := .agg #[.int .i64 x.f0, .int .i64 x.f1, .int .i64 x.f2, .int .i64 x.f3]
def mReg (n : Int) : Bool := inR n 0 5
def mOp3 (x : TOp) (hi lo : Int) : Bool := mReg x.f1 && inR x.f2 lo hi && x.f3 == 0
def mOp (x : TOp) : Bool := if x.f0 = 1 ∨ x.f0 = 5 then mOp3 x 9 1 else if x.f0 = 2 then mOp3 x 999 0 else if x.f0 = 3 ∨ x.f0 = 4 then mReg x.f1 && mReg x.f2 && mReg x.f3 else false
def mAreOps (l : List TOp) : Bool := decide (l.length ≤ 16) && l.all mOp
theorem rd_box {w : World} {g : Nat} {t : TypeId} {cs : Array Value} (h : BoxAt w g t cs) : Rd w g (g + 1) 1 (some ⟨g, 0, none⟩) cs.size cs.toList :=
 ⟨by simp, fun _ => ⟨g, 0, rfl, Nat.le_refl _, Nat.lt_succ_self _, fun j u hu => by rw [Nat.zero_add]; exact h.at_ (by simpa using hu)⟩⟩

abbrev TInt := Int
def TInt.cells (x : TInt) : List Value := [.int .i64 x]
theorem TInt.len (x : TInt) : (TInt.cells x).length = 1 := rfl
abbrev cInt (l : List TInt) : List Value := l.flatMap TInt.cells

theorem rd_tailReg {w : World} {lo hi n b off : Nat} {x : TInt} {l : List TInt} (h : Rd w lo hi 1 (some ⟨b, off, none⟩) (n + 1) (cInt (x :: l))) :
  Rd w lo hi 1 (some ⟨b, off + 1, none⟩) n (cInt l) := by
 have hc : cInt (x :: l) = TInt.cells x ++ cInt l := rfl
 refine ⟨?_, fun hn => ?_⟩
 ·
  have := h.1
  rw [hc, List.length_append, TInt.len] at this
  omega
 ·
  obtain ⟨b', off', e, h1, h2, h3⟩ := h.2 (by omega)
  cases e
  refine ⟨b, off + 1, rfl, h1, h2, fun j u hu => ?_⟩
  rw [Nat.add_assoc]
  refine h3 (1 + j) u ?_
  rw [hc, List.getElem?_append_right (by rw [TInt.len]; omega), TInt.len]
  simpa using hu

set_option maxHeartbeats 4000000 in
theorem any_Reg (p : TInt → Bool) (lb : Array Value) (l : List TInt) (A : Option Addr) (n c lo hi : Nat) (w : World) (hn : n ≤ 17592186044416) (hcap : n ≤ c)
  (hr : Rd w lo hi 1 A n (cInt l)) (hp : PredB Try.prog 122 lb (fun x : TInt => .int .i64 x) p l w) :
  Calls Try.prog 121 #[.slice A n c, .func (.func 122) #[] lb] w (Says (.bool (l.any p)) w) := by
 have HR := Lib.hid hr
 have HP := Lib.hid hp
 clear hr hp
 go_enter Try.func121, Try.ntmps121
 go_wp2_with fail
 go_loopg [0] n (fun gg v wr => ∃ (A' : Option Addr) (n' c' : Nat) (l' : List TInt), v = .slice A' n' c' ∧ n' ≤ gg ∧ n' ≤ n ∧ n' ≤ c' ∧ Hid (Rd wr lo hi 1 A' n' (cInt l')) ∧ Hid (∀ x, x ∈ l' → x ∈ l) ∧ Hid (l.any p = l'.any p) ∧ Hid (Below w.heap.size w wr))
 case atStart => exact ⟨_, _, _, l, rfl, Nat.le_refl _, Nat.le_refl _, hcap, HR, Lib.hid (fun _ h => h), Lib.hid rfl, Lib.hid (Below.refl _ _)⟩
 case round =>
  obtain ⟨A', n', c', l', rfl, hg, hn', hcc, HR', HM, HA, HB⟩ := hrel
  cases l' with
  | nil =>
   obtain rfl : n' = 0 := by have := HR'.out.1; simp at this; omega
   have HE := Lib.hid (show l.any p = false from HA.out)
   go_wp2_with fail
   go_ret
   exact ⟨by rw [HE.out]; rfl, HB.out⟩
  | cons x t =>
   have HL := Lib.hid (rd_len TInt.len HR'.out (by decide))
   obtain ⟨m, rfl⟩ : ∃ m, n' = m + 1 := ⟨t.length, by have := HL.out; simp at this; omega⟩
   obtain ⟨b, off, x', rfl, _, _, hz, hc⟩ := rd_elem (k := 0) TInt.len HR'.out HL.out (by omega)
   obtain rfl : x = x' := by simpa using hz
   have c0 : wr.cell? ⟨b, off, none⟩ = some (.int .i64 x) := by simpa using hc 0 _ rfl
   have HT := Lib.hid (rd_tailReg HR'.out)
   have hcall := HP.out wr x (HM.out x (by simp)) HB.out
   have HMt := Lib.hid (fun y (h : y ∈ t) => HM.out y (List.mem_cons_of_mem _ h))
   clear hc hz HR' HM
   cases hq : p x with
   | true =>
    rw [hq] at hcall
    have HE := Lib.hid (show l.any p = true by rw [HA.out, List.any_cons, hq]; rfl)
    clear hq HA
    go_wp2_with (go_at_call 122; refine hcall.mono ?_; rintro e w1 ⟨rfl, hb1⟩; have HB1 := Lib.hid hb1; clear hb1)
    go_ret
    exact ⟨by rw [HE.out]; rfl, below_trans HB.out HB1.out (Nat.le_refl _)⟩
   | false =>
    rw [hq] at hcall
    have HE := Lib.hid (show l.any p = t.any p by rw [HA.out, List.any_cons, hq]; rfl)
    clear hq HA
    rcases Nat.eq_zero_or_pos m with rfl | hm
    ·
     obtain rfl : t = [] := by have := HL.out; simpa using this
     go_wp2_with (go_at_call 122; refine hcall.mono ?_; rintro e w1 ⟨rfl, hb1⟩; have HB1 := Lib.hid hb1; clear hb1)
     go_roundg 0
     case measure => omega
     case rel => exact ⟨_, _, _, [], rfl, Nat.le_refl _, by omega, by omega, Lib.hid Rd.empty, HMt, HE, Lib.hid (below_trans HB.out HB1.out (Nat.le_refl _))⟩
    ·
     go_wp2_with (go_at_call 122; refine hcall.mono ?_; rintro e w1 ⟨rfl, hb1⟩; have HB1 := Lib.hid hb1; clear hb1)
     go_roundg m
     case measure => omega
     case rel => exact ⟨_, _, _, t, rfl, by omega, by omega, by omega, Lib.hid (HT.out.new HB1.out), HMt, HE, Lib.hid (below_trans HB.out HB1.out (Nat.le_refl _))⟩

theorem nots_Reg (p : TInt → Bool) (lb : Array Value) (l : List TInt) (B : Nat) (w : World) (hq : w.cell? ⟨B, 0, none⟩ = some (.func (.func 119) #[] lb))
  (hp : PredB Try.prog 119 lb (fun x : TInt => .int .i64 x) p l w) : PredB Try.prog 122 #[.pointer (some ⟨B, 0, none⟩)] (fun x : TInt => .int .i64 x) (fun x => !p x) l w := fun W x hx hb => by
 have c0 := cell_nw hb hq
 have HC := Lib.hid (show Calls Try.prog 119 (#[.int .i64 x] ++ lb) W _ from hp _ x hx hb)
 clear hb hq hp
 change Calls Try.prog _ #[.int .i64 x, .pointer (some ⟨B, 0, none⟩)] _ (Says (.bool (!p x)) W)
 generalize p x = q at HC ⊢
 cases q
 all_goals
  go_enter Try.func122, Try.ntmps122
  go_wp2_with (go_at_call 119; refine HC.out.mono ?_; rintro e w1 ⟨rfl, hb1⟩; have HB1 := Lib.hid hb1; clear hb1)
  go_ret
  exact ⟨rfl, HB1.out⟩

set_option maxHeartbeats 4000000 in
theorem all_Reg (p : TInt → Bool) (lb : Array Value) (l : List TInt) (A : Option Addr) (n c lo hi : Nat) (w : World) (hn : n ≤ 17592186044416) (hcap : n ≤ c)
  (hr : Rd w lo hi 1 A n (cInt l)) (hp : PredB Try.prog 119 lb (fun x : TInt => .int .i64 x) p l w) :
  Calls Try.prog 118 #[.slice A n c, .func (.func 119) #[] lb] w (Says (.bool (l.all p)) w) := by
 have hmf : ∀ (fn : Fn) (first cap : Array Value) (w : World), (Instr.makeFunc fn first cap).run Try.prog w = .ok (.func fn first cap) w := fun _ _ _ _ => rfl
 have HC := any_Reg (fun x => !p x) #[.pointer (some ⟨w.heap.size, 0, none⟩)] l A n c lo hi (w.alloc (.cells #[.func (.func 119) #[] lb] 28)) hn hcap (hr.alloc _)
  (nots_Reg p lb l w.heap.size _ (cell_newest (by simp) rfl) (fun W x hx hb => hp W x hx (below_trans ((Below.refl _ _).alloc (Nat.le_refl _) _) hb (by simp))))
 have hE : l.all p = !(l.any fun x => !p x) := by rw [List.all_eq_not_any_not]
 rw [hE]
 clear hr hp hE
 generalize (l.any fun x => !p x) = q at HC ⊢
 have HC := Lib.hid HC
 cases q
 all_goals
  go_enter Try.func118, Try.ntmps118
  go_wp2_with fail
  refine HC.out.mono ?_
  rintro e w1 ⟨rfl, hb1⟩
  have HB1 := Lib.hid (below_trans ((Below.refl _ _).alloc (Nat.le_refl _) _) hb1 (by simp))
  clear hb1
  go_wp2_with fail
  go_ret
  exact ⟨rfl, HB1.out⟩

theorem clo_Reg (l : List TInt) (w : World) : PredB Try.prog 119 #[] (fun x : TInt => .int .i64 x) mReg l w := fun W x _ _ => by
 change Calls Try.prog _ #[.int .i64 x] _ (Says (.bool (inR x 0 5)) W)
 go_enter Try.func119, Try.ntmps119
 go_wp2_with (go_at_call 59; refine (impl_in _ _ _ _).mono ?_; rintro e w1 ⟨rfl, rfl⟩)
 go_ret
 exact ⟨rfl, Below.refl _ _⟩
theorem impl_areRegisters (l : List TInt) (A : Option Addr) (n c lo hi : Nat) (w : World) (hn : n ≤ 17592186044416) (hcap : n ≤ c) (hr : Rd w lo hi 1 A n (cInt l)) :
  Calls Try.prog 109 #[.slice A n c] w (Says (.bool (l.all mReg)) w) := by
 have HC := Lib.hid (all_Reg mReg #[] l A n c lo hi w hn hcap hr (clo_Reg l w))
 clear hr
 generalize l.all mReg = q at HC ⊢
 go_enter Try.func109, Try.ntmps109
 go_wp2_with fail
 refine Calls.mono HC.out ?_
 rintro e w1 ⟨rfl, hb1⟩
 have HB1 := Lib.hid hb1
 clear hb1
 go_wp2_with fail
 go_ret
 exact ⟨rfl, HB1.out⟩

set_option maxHeartbeats 20000000 in
theorem impl_isOp' (x0 x1 x2 x3 : Int) (w : World) : Calls Try.prog 75 #[vOp ⟨x0, x1, x2, x3⟩] w (Says (.bool (mOp ⟨x0, x1, x2, x3⟩)) w) := by
 by_cases h1 : x0 = 1
 ·
  subst h1
  have HV := Lib.hid (show mOp ⟨1, x1, x2, x3⟩ = (mReg x1 && inR x2 1 9 && x3 == 0) from by simp [mOp, mOp3])
  rw [HV.out]
  have HX := Lib.hid ((box_new w 49 #[.int .i64 1, .int .i64 x1, .int .i64 x2, .int .i64 x3]).alloc_ (.cells #[.int .i64 x1] 3))
  have HS : BoxAt ((w.alloc (.cells #[.int .i64 1, .int .i64 x1, .int .i64 x2, .int .i64 x3] 49)).alloc (.cells #[.int .i64 x1] 3)) (w.heap.size + 1) 3 #[.int .i64 x1] := by simpa using box_new (w.alloc (.cells #[.int .i64 1, .int .i64 x1, .int .i64 x2, .int .i64 x3] 49)) 3 #[.int .i64 x1]
  have C0 := impl_areRegisters [x1] _ 1 1 _ _ _ (by decide) (by decide) (rd_box HS)
  have HBw : Below w.heap.size w ((w.alloc (.cells #[.int .i64 1, .int .i64 x1, .int .i64 x2, .int .i64 x3] 49)).alloc (.cells #[.int .i64 x1] 3)) := ((Below.refl _ _).alloc (Nat.le_refl _) _).alloc (by simp) _
  replace HBw := Lib.hid HBw
  clear HS
  have hq : ([x1] : List TInt).all mReg = mReg x1 := by simp [List.all_cons, Bool.and_assoc]
  rw [hq] at C0
  clear hq
  generalize mReg x1 = b0 at C0 ⊢
  replace C0 := Lib.hid C0
  cases b0
  ·
   go_enter Try.func75, Try.ntmps75
   go_wp2_with fail
   refine Calls.mono C0.out ?_
   rintro e w1 ⟨rfl, hb1⟩
   replace HX := Lib.hid (HX.out.new hb1)
   replace HBw := Lib.hid (below_trans HBw.out hb1 (Nat.le_refl _))
   have e0 : w1.cell? ⟨w.heap.size, 0, none⟩ = some (.int .i64 1) := HX.out.at_ rfl
   have e1 : w1.cell? ⟨w.heap.size, 1, none⟩ = some (.int .i64 x1) := HX.out.at_ rfl
   have e2 : w1.cell? ⟨w.heap.size, 2, none⟩ = some (.int .i64 x2) := HX.out.at_ rfl
   have e3 : w1.cell? ⟨w.heap.size, 3, none⟩ = some (.int .i64 x3) := HX.out.at_ rfl
   clear hb1
   go_wp2_with fail
   go_ret
   exact ⟨rfl, HBw.out⟩
  ·
   by_cases h2 : inR x2 1 9 = true
   ·
    rw [h2]
    go_enter Try.func75, Try.ntmps75
    go_wp2_with fail
    refine Calls.mono C0.out ?_
    rintro e w1 ⟨rfl, hb1⟩
    replace HX := Lib.hid (HX.out.new hb1)
    replace HBw := Lib.hid (below_trans HBw.out hb1 (Nat.le_refl _))
    have e0 : w1.cell? ⟨w.heap.size, 0, none⟩ = some (.int .i64 1) := HX.out.at_ rfl
    have e1 : w1.cell? ⟨w.heap.size, 1, none⟩ = some (.int .i64 x1) := HX.out.at_ rfl
    have e2 : w1.cell? ⟨w.heap.size, 2, none⟩ = some (.int .i64 x2) := HX.out.at_ rfl
    have e3 : w1.cell? ⟨w.heap.size, 3, none⟩ = some (.int .i64 x3) := HX.out.at_ rfl
    clear hb1
    go_wp2_with (go_at_call 59; refine (impl_in _ _ _ _).mono ?_; rintro e w1 ⟨rfl, rfl⟩)
    go_ret
    exact ⟨by simp, HBw.out⟩
   ·
    have h2 : inR x2 1 9 = false := by simpa using h2
    rw [h2]
    go_enter Try.func75, Try.ntmps75
    go_wp2_with fail
    refine Calls.mono C0.out ?_
    rintro e w1 ⟨rfl, hb1⟩
    replace HX := Lib.hid (HX.out.new hb1)
    replace HBw := Lib.hid (below_trans HBw.out hb1 (Nat.le_refl _))
    have e0 : w1.cell? ⟨w.heap.size, 0, none⟩ = some (.int .i64 1) := HX.out.at_ rfl
    have e1 : w1.cell? ⟨w.heap.size, 1, none⟩ = some (.int .i64 x1) := HX.out.at_ rfl
    have e2 : w1.cell? ⟨w.heap.size, 2, none⟩ = some (.int .i64 x2) := HX.out.at_ rfl
    have e3 : w1.cell? ⟨w.heap.size, 3, none⟩ = some (.int .i64 x3) := HX.out.at_ rfl
    clear hb1
    go_wp2_with (go_at_call 59; refine (impl_in _ _ _ _).mono ?_; rintro e w1 ⟨rfl, rfl⟩)
    go_ret
    exact ⟨by simp, HBw.out⟩
 ·
  have k1 : (x0 == 1) = false := by simpa using h1
  by_cases h5 : x0 = 5
  ·
   subst h5
   have HV := Lib.hid (show mOp ⟨5, x1, x2, x3⟩ = (mReg x1 && inR x2 1 9 && x3 == 0) from by simp [mOp, mOp3])
   rw [HV.out]
   have HX := Lib.hid ((box_new w 49 #[.int .i64 5, .int .i64 x1, .int .i64 x2, .int .i64 x3]).alloc_ (.cells #[.int .i64 x1] 3))
   have HS : BoxAt ((w.alloc (.cells #[.int .i64 5, .int .i64 x1, .int .i64 x2, .int .i64 x3] 49)).alloc (.cells #[.int .i64 x1] 3)) (w.heap.size + 1) 3 #[.int .i64 x1] := by simpa using box_new (w.alloc (.cells #[.int .i64 5, .int .i64 x1, .int .i64 x2, .int .i64 x3] 49)) 3 #[.int .i64 x1]
   have C0 := impl_areRegisters [x1] _ 1 1 _ _ _ (by decide) (by decide) (rd_box HS)
   have HBw : Below w.heap.size w ((w.alloc (.cells #[.int .i64 5, .int .i64 x1, .int .i64 x2, .int .i64 x3] 49)).alloc (.cells #[.int .i64 x1] 3)) := ((Below.refl _ _).alloc (Nat.le_refl _) _).alloc (by simp) _
   replace HBw := Lib.hid HBw
   clear HS
   have hq : ([x1] : List TInt).all mReg = mReg x1 := by simp [List.all_cons, Bool.and_assoc]
   rw [hq] at C0
   clear hq
   generalize mReg x1 = b0 at C0 ⊢
   replace C0 := Lib.hid C0
   cases b0
   ·
    go_enter Try.func75, Try.ntmps75
    go_wp2_with fail
    refine Calls.mono C0.out ?_
    rintro e w1 ⟨rfl, hb1⟩
    replace HX := Lib.hid (HX.out.new hb1)
    replace HBw := Lib.hid (below_trans HBw.out hb1 (Nat.le_refl _))
    have e0 : w1.cell? ⟨w.heap.size, 0, none⟩ = some (.int .i64 5) := HX.out.at_ rfl
    have e1 : w1.cell? ⟨w.heap.size, 1, none⟩ = some (.int .i64 x1) := HX.out.at_ rfl
    have e2 : w1.cell? ⟨w.heap.size, 2, none⟩ = some (.int .i64 x2) := HX.out.at_ rfl
    have e3 : w1.cell? ⟨w.heap.size, 3, none⟩ = some (.int .i64 x3) := HX.out.at_ rfl
    clear hb1
    go_wp2_with fail
    go_ret
    exact ⟨rfl, HBw.out⟩
   ·
    by_cases h2 : inR x2 1 9 = true
    ·
     rw [h2]
     go_enter Try.func75, Try.ntmps75
     go_wp2_with fail
     refine Calls.mono C0.out ?_
     rintro e w1 ⟨rfl, hb1⟩
     replace HX := Lib.hid (HX.out.new hb1)
     replace HBw := Lib.hid (below_trans HBw.out hb1 (Nat.le_refl _))
     have e0 : w1.cell? ⟨w.heap.size, 0, none⟩ = some (.int .i64 5) := HX.out.at_ rfl
     have e1 : w1.cell? ⟨w.heap.size, 1, none⟩ = some (.int .i64 x1) := HX.out.at_ rfl
     have e2 : w1.cell? ⟨w.heap.size, 2, none⟩ = some (.int .i64 x2) := HX.out.at_ rfl
     have e3 : w1.cell? ⟨w.heap.size, 3, none⟩ = some (.int .i64 x3) := HX.out.at_ rfl
     clear hb1
     go_wp2_with (go_at_call 59; refine (impl_in _ _ _ _).mono ?_; rintro e w1 ⟨rfl, rfl⟩)
     go_ret
     exact ⟨by simp, HBw.out⟩
    ·
     have h2 : inR x2 1 9 = false := by simpa using h2
     rw [h2]
     go_enter Try.func75, Try.ntmps75
     go_wp2_with fail
     refine Calls.mono C0.out ?_
     rintro e w1 ⟨rfl, hb1⟩
     replace HX := Lib.hid (HX.out.new hb1)
     replace HBw := Lib.hid (below_trans HBw.out hb1 (Nat.le_refl _))
     have e0 : w1.cell? ⟨w.heap.size, 0, none⟩ = some (.int .i64 5) := HX.out.at_ rfl
     have e1 : w1.cell? ⟨w.heap.size, 1, none⟩ = some (.int .i64 x1) := HX.out.at_ rfl
     have e2 : w1.cell? ⟨w.heap.size, 2, none⟩ = some (.int .i64 x2) := HX.out.at_ rfl
     have e3 : w1.cell? ⟨w.heap.size, 3, none⟩ = some (.int .i64 x3) := HX.out.at_ rfl
     clear hb1
     go_wp2_with (go_at_call 59; refine (impl_in _ _ _ _).mono ?_; rintro e w1 ⟨rfl, rfl⟩)
     go_ret
     exact ⟨by simp, HBw.out⟩
  ·
   have k5 : (x0 == 5) = false := by simpa using h5
   by_cases h2 : x0 = 2
   ·
    subst h2
    have HV := Lib.hid (show mOp ⟨2, x1, x2, x3⟩ = (mReg x1 && inR x2 0 999 && x3 == 0) from by simp [mOp, mOp3])
    rw [HV.out]
    have HX := Lib.hid ((box_new w 49 #[.int .i64 2, .int .i64 x1, .int .i64 x2, .int .i64 x3]).alloc_ (.cells #[.int .i64 x1] 3))
    have HS : BoxAt ((w.alloc (.cells #[.int .i64 2, .int .i64 x1, .int .i64 x2, .int .i64 x3] 49)).alloc (.cells #[.int .i64 x1] 3)) (w.heap.size + 1) 3 #[.int .i64 x1] := by simpa using box_new (w.alloc (.cells #[.int .i64 2, .int .i64 x1, .int .i64 x2, .int .i64 x3] 49)) 3 #[.int .i64 x1]
    have C0 := impl_areRegisters [x1] _ 1 1 _ _ _ (by decide) (by decide) (rd_box HS)
    have HBw : Below w.heap.size w ((w.alloc (.cells #[.int .i64 2, .int .i64 x1, .int .i64 x2, .int .i64 x3] 49)).alloc (.cells #[.int .i64 x1] 3)) := ((Below.refl _ _).alloc (Nat.le_refl _) _).alloc (by simp) _
    replace HBw := Lib.hid HBw
    clear HS
    have hq : ([x1] : List TInt).all mReg = mReg x1 := by simp [List.all_cons, Bool.and_assoc]
    rw [hq] at C0
    clear hq
    generalize mReg x1 = b0 at C0 ⊢
    replace C0 := Lib.hid C0
    cases b0
    ·
     go_enter Try.func75, Try.ntmps75
     go_wp2_with fail
     refine Calls.mono C0.out ?_
     rintro e w1 ⟨rfl, hb1⟩
     replace HX := Lib.hid (HX.out.new hb1)
     replace HBw := Lib.hid (below_trans HBw.out hb1 (Nat.le_refl _))
     have e0 : w1.cell? ⟨w.heap.size, 0, none⟩ = some (.int .i64 2) := HX.out.at_ rfl
     have e1 : w1.cell? ⟨w.heap.size, 1, none⟩ = some (.int .i64 x1) := HX.out.at_ rfl
     have e2 : w1.cell? ⟨w.heap.size, 2, none⟩ = some (.int .i64 x2) := HX.out.at_ rfl
     have e3 : w1.cell? ⟨w.heap.size, 3, none⟩ = some (.int .i64 x3) := HX.out.at_ rfl
     clear hb1
     go_wp2_with fail
     go_ret
     exact ⟨rfl, HBw.out⟩
    ·
     by_cases h2 : inR x2 0 999 = true
     ·
      rw [h2]
      go_enter Try.func75, Try.ntmps75
      go_wp2_with fail
      refine Calls.mono C0.out ?_
      rintro e w1 ⟨rfl, hb1⟩
      replace HX := Lib.hid (HX.out.new hb1)
      replace HBw := Lib.hid (below_trans HBw.out hb1 (Nat.le_refl _))
      have e0 : w1.cell? ⟨w.heap.size, 0, none⟩ = some (.int .i64 2) := HX.out.at_ rfl
      have e1 : w1.cell? ⟨w.heap.size, 1, none⟩ = some (.int .i64 x1) := HX.out.at_ rfl
      have e2 : w1.cell? ⟨w.heap.size, 2, none⟩ = some (.int .i64 x2) := HX.out.at_ rfl
      have e3 : w1.cell? ⟨w.heap.size, 3, none⟩ = some (.int .i64 x3) := HX.out.at_ rfl
      clear hb1
      go_wp2_with (go_at_call 59; refine (impl_in _ _ _ _).mono ?_; rintro e w1 ⟨rfl, rfl⟩)
      go_ret
      exact ⟨by simp, HBw.out⟩
     ·
      have h2 : inR x2 0 999 = false := by simpa using h2
      rw [h2]
      go_enter Try.func75, Try.ntmps75
      go_wp2_with fail
      refine Calls.mono C0.out ?_
      rintro e w1 ⟨rfl, hb1⟩
      replace HX := Lib.hid (HX.out.new hb1)
      replace HBw := Lib.hid (below_trans HBw.out hb1 (Nat.le_refl _))
      have e0 : w1.cell? ⟨w.heap.size, 0, none⟩ = some (.int .i64 2) := HX.out.at_ rfl
      have e1 : w1.cell? ⟨w.heap.size, 1, none⟩ = some (.int .i64 x1) := HX.out.at_ rfl
      have e2 : w1.cell? ⟨w.heap.size, 2, none⟩ = some (.int .i64 x2) := HX.out.at_ rfl
      have e3 : w1.cell? ⟨w.heap.size, 3, none⟩ = some (.int .i64 x3) := HX.out.at_ rfl
      clear hb1
      go_wp2_with (go_at_call 59; refine (impl_in _ _ _ _).mono ?_; rintro e w1 ⟨rfl, rfl⟩)
      go_ret
      exact ⟨by simp, HBw.out⟩
   ·
    have k2 : (x0 == 2) = false := by simpa using h2
    by_cases h3 : x0 = 3
    ·
     subst h3
     have HV := Lib.hid (show mOp ⟨3, x1, x2, x3⟩ = (mReg x1 && mReg x2 && mReg x3) from by simp [mOp, mOp3])
     rw [HV.out]
     have HX := Lib.hid ((box_new w 49 #[.int .i64 3, .int .i64 x1, .int .i64 x2, .int .i64 x3]).alloc_ (.cells #[.int .i64 x1, .int .i64 x2, .int .i64 x3] 3))
     have HS : BoxAt ((w.alloc (.cells #[.int .i64 3, .int .i64 x1, .int .i64 x2, .int .i64 x3] 49)).alloc (.cells #[.int .i64 x1, .int .i64 x2, .int .i64 x3] 3)) (w.heap.size + 1) 3 #[.int .i64 x1, .int .i64 x2, .int .i64 x3] := by simpa using box_new (w.alloc (.cells #[.int .i64 3, .int .i64 x1, .int .i64 x2, .int .i64 x3] 49)) 3 #[.int .i64 x1, .int .i64 x2, .int .i64 x3]
     have C0 := impl_areRegisters [x1, x2, x3] _ 3 3 _ _ _ (by decide) (by decide) (rd_box HS)
     have HBw : Below w.heap.size w ((w.alloc (.cells #[.int .i64 3, .int .i64 x1, .int .i64 x2, .int .i64 x3] 49)).alloc (.cells #[.int .i64 x1, .int .i64 x2, .int .i64 x3] 3)) := ((Below.refl _ _).alloc (Nat.le_refl _) _).alloc (by simp) _
     replace HBw := Lib.hid HBw
     clear HS
     have hq : ([x1, x2, x3] : List TInt).all mReg = (mReg x1 && mReg x2 && mReg x3) := by simp [List.all_cons, Bool.and_assoc]
     rw [hq] at C0
     clear hq
     generalize (mReg x1 && mReg x2 && mReg x3) = b0 at C0 ⊢
     replace C0 := Lib.hid C0
     go_enter Try.func75, Try.ntmps75
     go_wp2_with fail
     refine Calls.mono C0.out ?_
     rintro e w1 ⟨rfl, hb1⟩
     replace HX := Lib.hid (HX.out.new hb1)
     replace HBw := Lib.hid (below_trans HBw.out hb1 (Nat.le_refl _))
     have e0 : w1.cell? ⟨w.heap.size, 0, none⟩ = some (.int .i64 3) := HX.out.at_ rfl
     have e1 : w1.cell? ⟨w.heap.size, 1, none⟩ = some (.int .i64 x1) := HX.out.at_ rfl
     have e2 : w1.cell? ⟨w.heap.size, 2, none⟩ = some (.int .i64 x2) := HX.out.at_ rfl
     have e3 : w1.cell? ⟨w.heap.size, 3, none⟩ = some (.int .i64 x3) := HX.out.at_ rfl
     clear hb1
     go_wp2_with fail
     go_ret
     exact ⟨rfl, HBw.out⟩
    ·
     have k3 : (x0 == 3) = false := by simpa using h3
     by_cases h4 : x0 = 4
     ·
      subst h4
      have HV := Lib.hid (show mOp ⟨4, x1, x2, x3⟩ = (mReg x1 && mReg x2 && mReg x3) from by simp [mOp, mOp3])
      rw [HV.out]
      have HX := Lib.hid ((box_new w 49 #[.int .i64 4, .int .i64 x1, .int .i64 x2, .int .i64 x3]).alloc_ (.cells #[.int .i64 x1, .int .i64 x2, .int .i64 x3] 3))
      have HS : BoxAt ((w.alloc (.cells #[.int .i64 4, .int .i64 x1, .int .i64 x2, .int .i64 x3] 49)).alloc (.cells #[.int .i64 x1, .int .i64 x2, .int .i64 x3] 3)) (w.heap.size + 1) 3 #[.int .i64 x1, .int .i64 x2, .int .i64 x3] := by simpa using box_new (w.alloc (.cells #[.int .i64 4, .int .i64 x1, .int .i64 x2, .int .i64 x3] 49)) 3 #[.int .i64 x1, .int .i64 x2, .int .i64 x3]
      have C0 := impl_areRegisters [x1, x2, x3] _ 3 3 _ _ _ (by decide) (by decide) (rd_box HS)
      have HBw : Below w.heap.size w ((w.alloc (.cells #[.int .i64 4, .int .i64 x1, .int .i64 x2, .int .i64 x3] 49)).alloc (.cells #[.int .i64 x1, .int .i64 x2, .int .i64 x3] 3)) := ((Below.refl _ _).alloc (Nat.le_refl _) _).alloc (by simp) _
      replace HBw := Lib.hid HBw
      clear HS
      have hq : ([x1, x2, x3] : List TInt).all mReg = (mReg x1 && mReg x2 && mReg x3) := by simp [List.all_cons, Bool.and_assoc]
      rw [hq] at C0
      clear hq
      generalize (mReg x1 && mReg x2 && mReg x3) = b0 at C0 ⊢
      replace C0 := Lib.hid C0
      go_enter Try.func75, Try.ntmps75
      go_wp2_with fail
      refine Calls.mono C0.out ?_
      rintro e w1 ⟨rfl, hb1⟩
      replace HX := Lib.hid (HX.out.new hb1)
      replace HBw := Lib.hid (below_trans HBw.out hb1 (Nat.le_refl _))
      have e0 : w1.cell? ⟨w.heap.size, 0, none⟩ = some (.int .i64 4) := HX.out.at_ rfl
      have e1 : w1.cell? ⟨w.heap.size, 1, none⟩ = some (.int .i64 x1) := HX.out.at_ rfl
      have e2 : w1.cell? ⟨w.heap.size, 2, none⟩ = some (.int .i64 x2) := HX.out.at_ rfl
      have e3 : w1.cell? ⟨w.heap.size, 3, none⟩ = some (.int .i64 x3) := HX.out.at_ rfl
      clear hb1
      go_wp2_with fail
      go_ret
      exact ⟨rfl, HBw.out⟩
     ·
      have k4 : (x0 == 4) = false := by simpa using h4
      have HV := Lib.hid (show mOp ⟨x0, x1, x2, x3⟩ = false from by simp [mOp, h1, h2, h3, h4, h5])
      rw [HV.out]
      clear h1 h2 h3 h4 h5
      go_enter Try.func75, Try.ntmps75
      go_wp2_with fail
      go_ret
      exact ⟨rfl, (Below.refl _ _).alloc (Nat.le_refl _) _⟩

theorem impl_isOp (x : TOp) (w : World) : Calls Try.prog 75 #[vOp x] w (Says (.bool (mOp x)) w) := impl_isOp' x.f0 x.f1 x.f2 x.f3 w
end Go.Proofs.Ytcankpiidjhhpaa
