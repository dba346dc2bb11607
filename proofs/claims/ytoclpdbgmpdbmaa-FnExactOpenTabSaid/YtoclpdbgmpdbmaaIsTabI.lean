/- IsTab of the program. -/
import Derived.Test.YtoclpdbgmpdbmaaRTab
import Derived.Test.YtoclpdbgmpdbmaaAsc
import Derived.Test.YtoclpdbgmpdbmaaIsDoc
import Derived.Test.YtoclpdbgmpdbmaaIsEdit
import Derived.Test.YtoclpdbgmpdbmaaSite
import Derived.Test.YtoclpdbgmpdbmaaIn
import Derived.Test.YtoclpdbgmpdbmaaFun
import Derived.Deep.LoopGhost
namespace Go.Proofs.Ytoclpdbgmpdbmaa
open Go Go.ChangeShapes Go.WideShapes Go.ChangeAt Go.RowKit Go.Lib
set_option linter.unusedVariables false
set_option linter.unusedSimpArgs false
set_option maxRecDepth 100000
theorem rd_tailEdA {w : World} {lo hi n b off : Nat} {x : TEdit} {l : List TEdit} (h : Rd w lo hi 6 (some ⟨b, off, none⟩) (n + 1) (cEdit (x :: l))) :
    Rd w lo hi 6 (some ⟨b, off + 6, none⟩) n (cEdit l) := by
  have hc : cEdit (x :: l) = TEdit.cells x ++ cEdit l := rfl
  refine ⟨?_, fun hn => ?_⟩
  · have := h.1
    rw [hc, List.length_append, TEdit.len] at this
    omega
  · obtain ⟨b', off', e, h1, h2, h3⟩ := h.2 (by omega)
    cases e
    refine ⟨b, off + 6, rfl, h1, h2, fun j u hu => ?_⟩
    rw [Nat.add_assoc]
    refine h3 (6 + j) u ?_
    rw [hc, List.getElem?_append_right (by rw [TEdit.len]; omega), TEdit.len]
    simpa using hu

set_option maxHeartbeats 4000000 in
theorem any_EdA (p : TEdit → Bool) (lb : Array Value) (l : List TEdit) (A : Option Addr) (n c lo hi : Nat) (w : World) (hn : n ≤ 17592186044416) (hcap : n ≤ c)
    (hr : Rd w lo hi 6 A n (cEdit l)) (hp : PredB Try.prog 191 lb (fun x : TEdit => .agg #[.int .i64 x.f0, .int .i64 x.f1, .int .i64 x.f2, .int .i64 x.f3, .int .i64 x.f4, .int .i64 x.f5]) p l w) :
    Calls Try.prog 190 #[.slice A n c, .func (.func 191) #[] lb] w (Says (.bool (l.any p)) w) := by
  have HR := Lib.hid hr
  have HP := Lib.hid hp
  clear hr hp
  go_enter Try.func190, Try.ntmps190
  go_wp2_with fail
  go_loopg [0] n (fun gg v wr => ∃ (A' : Option Addr) (n' c' : Nat) (l' : List TEdit), v = .slice A' n' c' ∧ n' ≤ gg ∧ n' ≤ n ∧ n' ≤ c' ∧ Hid (Rd wr lo hi 6 A' n' (cEdit l')) ∧ Hid (∀ x, x ∈ l' → x ∈ l) ∧ Hid (l.any p = l'.any p) ∧ Hid (Below w.heap.size w wr))
  case atStart => exact ⟨_, _, _, l, rfl, Nat.le_refl _, Nat.le_refl _, hcap, HR, Lib.hid (fun _ h => h), Lib.hid rfl, Lib.hid (Below.refl _ _)⟩
  case round =>
    obtain ⟨A', n', c', l', rfl, hg, hn', hcc, HR', HM, HA, HB⟩ := hrel
    cases l' with
    | nil =>
      obtain rfl : n' = 0 := by have := HR'.out.1; simp at this; omega
      have HE := Lib.hid (show l.any p = false from HA.out)
      go_wp2_with fail
      go_ret
      exact ⟨by rw [HE.out]; rfl, HB.out⟩
    | cons x t =>
      have HL := Lib.hid (rd_len TEdit.len HR'.out (by decide))
      obtain ⟨m, rfl⟩ : ∃ m, n' = m + 1 := ⟨t.length, by have := HL.out; simp at this; omega⟩
      obtain ⟨b, off, x', rfl, _, _, hz, hc⟩ := rd_elem (k := 0) TEdit.len HR'.out HL.out (by omega)
      obtain rfl : x = x' := by simpa using hz
      have c0 : wr.cell? ⟨b, off, none⟩ = some (.int .i64 x.f0) := by simpa using hc 0 _ rfl
      have c1 : wr.cell? ⟨b, off + 1, none⟩ = some (.int .i64 x.f1) := by simpa using hc 1 _ rfl
      have c2 : wr.cell? ⟨b, off + 2, none⟩ = some (.int .i64 x.f2) := by simpa using hc 2 _ rfl
      have c3 : wr.cell? ⟨b, off + 3, none⟩ = some (.int .i64 x.f3) := by simpa using hc 3 _ rfl
      have c4 : wr.cell? ⟨b, off + 4, none⟩ = some (.int .i64 x.f4) := by simpa using hc 4 _ rfl
      have c5 : wr.cell? ⟨b, off + 5, none⟩ = some (.int .i64 x.f5) := by simpa using hc 5 _ rfl
      have HT := Lib.hid (rd_tailEdA HR'.out)
      have hcall := HP.out wr x (HM.out x (by simp)) HB.out
      have HMt := Lib.hid (fun y (h : y ∈ t) => HM.out y (List.mem_cons_of_mem _ h))
      clear hc hz HR' HM
      cases hq : p x with
      | true =>
        rw [hq] at hcall
        have HE := Lib.hid (show l.any p = true by rw [HA.out, List.any_cons, hq]; rfl)
        clear hq HA
        go_wp2_with (go_at_call 191; refine hcall.mono ?_; rintro e w1 ⟨rfl, hb1⟩; have HB1 := Lib.hid hb1; clear hb1)
        go_ret
        exact ⟨by rw [HE.out]; rfl, below_trans HB.out HB1.out (Nat.le_refl _)⟩
      | false =>
        rw [hq] at hcall
        have HE := Lib.hid (show l.any p = t.any p by rw [HA.out, List.any_cons, hq]; rfl)
        clear hq HA
        rcases Nat.eq_zero_or_pos m with rfl | hm
        · obtain rfl : t = [] := by have := HL.out; simpa using this
          go_wp2_with (go_at_call 191; refine hcall.mono ?_; rintro e w1 ⟨rfl, hb1⟩; have HB1 := Lib.hid hb1; clear hb1)
          go_roundg 0
          case measure => omega
          case rel => exact ⟨_, _, _, [], rfl, Nat.le_refl _, by omega, by omega, Lib.hid Rd.empty, HMt, HE, Lib.hid (below_trans HB.out HB1.out (Nat.le_refl _))⟩
        · go_wp2_with (go_at_call 191; refine hcall.mono ?_; rintro e w1 ⟨rfl, hb1⟩; have HB1 := Lib.hid hb1; clear hb1)
          go_roundg m
          case measure => omega
          case rel => exact ⟨_, _, _, t, rfl, by omega, by omega, by omega, Lib.hid (HT.out.new HB1.out), HMt, HE, Lib.hid (below_trans HB.out HB1.out (Nat.le_refl _))⟩

theorem nots_EdA (p : TEdit → Bool) (lb : Array Value) (l : List TEdit) (B : Nat) (w : World) (hq : w.cell? ⟨B, 0, none⟩ = some (.func (.func 163) #[] lb))
    (hp : PredB Try.prog 163 lb (fun x : TEdit => .agg #[.int .i64 x.f0, .int .i64 x.f1, .int .i64 x.f2, .int .i64 x.f3, .int .i64 x.f4, .int .i64 x.f5]) p l w) : PredB Try.prog 191 #[.pointer (some ⟨B, 0, none⟩)] (fun x : TEdit => .agg #[.int .i64 x.f0, .int .i64 x.f1, .int .i64 x.f2, .int .i64 x.f3, .int .i64 x.f4, .int .i64 x.f5]) (fun x => !p x) l w := fun W x hx hb => by
  have c0 := cell_nw hb hq
  have HC := Lib.hid (show Calls Try.prog 163 (#[.agg #[.int .i64 x.f0, .int .i64 x.f1, .int .i64 x.f2, .int .i64 x.f3, .int .i64 x.f4, .int .i64 x.f5]] ++ lb) (W.alloc (.cells #[.int .i64 x.f0, .int .i64 x.f1, .int .i64 x.f2, .int .i64 x.f3, .int .i64 x.f4, .int .i64 x.f5] 107)) _ from hp _ x hx (hb.alloc (by have := hb.size; omega) _))
  have m0 : B < W.heap.size := World.block_lt_of_cell? _ _ c0
  have n0 : B ≠ W.heap.size := Nat.ne_of_lt m0
  clear hb hq hp
  change Calls Try.prog _ #[.agg #[.int .i64 x.f0, .int .i64 x.f1, .int .i64 x.f2, .int .i64 x.f3, .int .i64 x.f4, .int .i64 x.f5], .pointer (some ⟨B, 0, none⟩)] _ (Says (.bool (!p x)) W)
  generalize p x = q at HC ⊢
  cases q
  all_goals
    go_enter Try.func191, Try.ntmps191
    go_wp2_with (go_at_call 163; refine HC.out.mono ?_; rintro e w1 ⟨rfl, hb1⟩; have HB1 := Lib.hid (below_trans ((Below.refl _ _).alloc (Nat.le_refl _) _) hb1 (by simp)); clear hb1)
    go_ret
    exact ⟨rfl, HB1.out⟩
set_option maxHeartbeats 4000000 in
theorem all_EdA (p : TEdit → Bool) (lb : Array Value) (l : List TEdit) (A : Option Addr) (n c lo hi : Nat) (w : World) (hn : n ≤ 17592186044416) (hcap : n ≤ c)
    (hr : Rd w lo hi 6 A n (cEdit l)) (hp : PredB Try.prog 163 lb (fun x : TEdit => .agg #[.int .i64 x.f0, .int .i64 x.f1, .int .i64 x.f2, .int .i64 x.f3, .int .i64 x.f4, .int .i64 x.f5]) p l w) :
    Calls Try.prog 162 #[.slice A n c, .func (.func 163) #[] lb] w (Says (.bool (l.all p)) w) := by
  have hmf : ∀ (fn : Fn) (first cap : Array Value) (w : World), (Instr.makeFunc fn first cap).run Try.prog w = .ok (.func fn first cap) w := fun _ _ _ _ => rfl
  have HC := any_EdA (fun x => !p x) #[.pointer (some ⟨w.heap.size, 0, none⟩)] l A n c lo hi (w.alloc (.cells #[.func (.func 163) #[] lb] 162)) hn hcap (hr.alloc _)
    (nots_EdA p lb l w.heap.size _ (cell_newest (by simp) rfl) (fun W x hx hb => hp W x hx (below_trans ((Below.refl _ _).alloc (Nat.le_refl _) _) hb (by simp))))
  have hE : l.all p = !(l.any fun x => !p x) := by rw [List.all_eq_not_any_not]
  rw [hE]
  clear hr hp hE
  generalize (l.any fun x => !p x) = q at HC ⊢
  have HC := Lib.hid HC
  cases q
  all_goals
    go_enter Try.func162, Try.ntmps162
    go_wp2_with fail
    refine HC.out.mono ?_
    rintro e w1 ⟨rfl, hb1⟩
    have HB1 := Lib.hid (below_trans ((Below.refl _ _).alloc (Nat.le_refl _) _) hb1 (by simp))
    clear hb1
    go_wp2_with fail
    go_ret
    exact ⟨rfl, HB1.out⟩

abbrev TInt := Int
def TInt.cells (x : TInt) : List Value := [.int .i64 x]
theorem TInt.len (x : TInt) : (TInt.cells x).length = 1 := rfl
abbrev cInt (l : List TInt) : List Value := l.flatMap TInt.cells

theorem rd_tailTag {w : World} {lo hi n b off : Nat} {x : TInt} {l : List TInt} (h : Rd w lo hi 1 (some ⟨b, off, none⟩) (n + 1) (cInt (x :: l))) :
    Rd w lo hi 1 (some ⟨b, off + 1, none⟩) n (cInt l) := by
  have hc : cInt (x :: l) = TInt.cells x ++ cInt l := rfl
  refine ⟨?_, fun hn => ?_⟩
  · have := h.1
    rw [hc, List.length_append, TInt.len] at this
    omega
  · obtain ⟨b', off', e, h1, h2, h3⟩ := h.2 (by omega)
    cases e
    refine ⟨b, off + 1, rfl, h1, h2, fun j u hu => ?_⟩
    rw [Nat.add_assoc]
    refine h3 (1 + j) u ?_
    rw [hc, List.getElem?_append_right (by rw [TInt.len]; omega), TInt.len]
    simpa using hu

set_option maxHeartbeats 4000000 in
theorem any_Tag (p : TInt → Bool) (lb : Array Value) (l : List TInt) (A : Option Addr) (n c lo hi : Nat) (w : World) (hn : n ≤ 17592186044416) (hcap : n ≤ c)
    (hr : Rd w lo hi 1 A n (cInt l)) (hp : PredB Try.prog 194 lb (fun x : TInt => .int .i64 x) p l w) :
    Calls Try.prog 193 #[.slice A n c, .func (.func 194) #[] lb] w (Says (.bool (l.any p)) w) := by
  have HR := Lib.hid hr
  have HP := Lib.hid hp
  clear hr hp
  go_enter Try.func193, Try.ntmps193
  go_wp2_with fail
  go_loopg [0] n (fun gg v wr => ∃ (A' : Option Addr) (n' c' : Nat) (l' : List TInt), v = .slice A' n' c' ∧ n' ≤ gg ∧ n' ≤ n ∧ n' ≤ c' ∧ Hid (Rd wr lo hi 1 A' n' (cInt l')) ∧ Hid (∀ x, x ∈ l' → x ∈ l) ∧ Hid (l.any p = l'.any p) ∧ Hid (Below w.heap.size w wr))
  case atStart => exact ⟨_, _, _, l, rfl, Nat.le_refl _, Nat.le_refl _, hcap, HR, Lib.hid (fun _ h => h), Lib.hid rfl, Lib.hid (Below.refl _ _)⟩
  case round =>
    obtain ⟨A', n', c', l', rfl, hg, hn', hcc, HR', HM, HA, HB⟩ := hrel
    cases l' with
    | nil =>
      obtain rfl : n' = 0 := by have := HR'.out.1; simp at this; omega
      have HE := Lib.hid (show l.any p = false from HA.out)
      go_wp2_with fail
      go_ret
      exact ⟨by rw [HE.out]; rfl, HB.out⟩
    | cons x t =>
      have HL := Lib.hid (rd_len TInt.len HR'.out (by decide))
      obtain ⟨m, rfl⟩ : ∃ m, n' = m + 1 := ⟨t.length, by have := HL.out; simp at this; omega⟩
      obtain ⟨b, off, x', rfl, _, _, hz, hc⟩ := rd_elem (k := 0) TInt.len HR'.out HL.out (by omega)
      obtain rfl : x = x' := by simpa using hz
      have c0 : wr.cell? ⟨b, off, none⟩ = some (.int .i64 x) := by simpa using hc 0 _ rfl
      have HT := Lib.hid (rd_tailTag HR'.out)
      have hcall := HP.out wr x (HM.out x (by simp)) HB.out
      have HMt := Lib.hid (fun y (h : y ∈ t) => HM.out y (List.mem_cons_of_mem _ h))
      clear hc hz HR' HM
      cases hq : p x with
      | true =>
        rw [hq] at hcall
        have HE := Lib.hid (show l.any p = true by rw [HA.out, List.any_cons, hq]; rfl)
        clear hq HA
        go_wp2_with (go_at_call 194; refine hcall.mono ?_; rintro e w1 ⟨rfl, hb1⟩; have HB1 := Lib.hid hb1; clear hb1)
        go_ret
        exact ⟨by rw [HE.out]; rfl, below_trans HB.out HB1.out (Nat.le_refl _)⟩
      | false =>
        rw [hq] at hcall
        have HE := Lib.hid (show l.any p = t.any p by rw [HA.out, List.any_cons, hq]; rfl)
        clear hq HA
        rcases Nat.eq_zero_or_pos m with rfl | hm
        · obtain rfl : t = [] := by have := HL.out; simpa using this
          go_wp2_with (go_at_call 194; refine hcall.mono ?_; rintro e w1 ⟨rfl, hb1⟩; have HB1 := Lib.hid hb1; clear hb1)
          go_roundg 0
          case measure => omega
          case rel => exact ⟨_, _, _, [], rfl, Nat.le_refl _, by omega, by omega, Lib.hid Rd.empty, HMt, HE, Lib.hid (below_trans HB.out HB1.out (Nat.le_refl _))⟩
        · go_wp2_with (go_at_call 194; refine hcall.mono ?_; rintro e w1 ⟨rfl, hb1⟩; have HB1 := Lib.hid hb1; clear hb1)
          go_roundg m
          case measure => omega
          case rel => exact ⟨_, _, _, t, rfl, by omega, by omega, by omega, Lib.hid (HT.out.new HB1.out), HMt, HE, Lib.hid (below_trans HB.out HB1.out (Nat.le_refl _))⟩

theorem nots_Tag (p : TInt → Bool) (lb : Array Value) (l : List TInt) (B : Nat) (w : World) (hq : w.cell? ⟨B, 0, none⟩ = some (.func (.func 166) #[] lb))
    (hp : PredB Try.prog 166 lb (fun x : TInt => .int .i64 x) p l w) : PredB Try.prog 194 #[.pointer (some ⟨B, 0, none⟩)] (fun x : TInt => .int .i64 x) (fun x => !p x) l w := fun W x hx hb => by
  have c0 := cell_nw hb hq
  have HC := Lib.hid (show Calls Try.prog 166 (#[.int .i64 x] ++ lb) W _ from hp _ x hx hb)
  clear hb hq hp
  change Calls Try.prog _ #[.int .i64 x, .pointer (some ⟨B, 0, none⟩)] _ (Says (.bool (!p x)) W)
  generalize p x = q at HC ⊢
  cases q
  all_goals
    go_enter Try.func194, Try.ntmps194
    go_wp2_with (go_at_call 166; refine HC.out.mono ?_; rintro e w1 ⟨rfl, hb1⟩; have HB1 := Lib.hid hb1; clear hb1)
    go_ret
    exact ⟨rfl, HB1.out⟩

set_option maxHeartbeats 4000000 in
theorem all_Tag (p : TInt → Bool) (lb : Array Value) (l : List TInt) (A : Option Addr) (n c lo hi : Nat) (w : World) (hn : n ≤ 17592186044416) (hcap : n ≤ c)
    (hr : Rd w lo hi 1 A n (cInt l)) (hp : PredB Try.prog 166 lb (fun x : TInt => .int .i64 x) p l w) :
    Calls Try.prog 165 #[.slice A n c, .func (.func 166) #[] lb] w (Says (.bool (l.all p)) w) := by
  have hmf : ∀ (fn : Fn) (first cap : Array Value) (w : World), (Instr.makeFunc fn first cap).run Try.prog w = .ok (.func fn first cap) w := fun _ _ _ _ => rfl
  have HC := any_Tag (fun x => !p x) #[.pointer (some ⟨w.heap.size, 0, none⟩)] l A n c lo hi (w.alloc (.cells #[.func (.func 166) #[] lb] 204)) hn hcap (hr.alloc _)
    (nots_Tag p lb l w.heap.size _ (cell_newest (by simp) rfl) (fun W x hx hb => hp W x hx (below_trans ((Below.refl _ _).alloc (Nat.le_refl _) _) hb (by simp))))
  have hE : l.all p = !(l.any fun x => !p x) := by rw [List.all_eq_not_any_not]
  rw [hE]
  clear hr hp hE
  generalize (l.any fun x => !p x) = q at HC ⊢
  have HC := Lib.hid HC
  cases q
  all_goals
    go_enter Try.func165, Try.ntmps165
    go_wp2_with fail
    refine HC.out.mono ?_
    rintro e w1 ⟨rfl, hb1⟩
    have HB1 := Lib.hid (below_trans ((Below.refl _ _).alloc (Nat.le_refl _) _) hb1 (by simp))
    clear hb1
    go_wp2_with fail
    go_ret
    exact ⟨rfl, HB1.out⟩

theorem clo_EdA (l : List TEdit) (w : World) (H : Hid (cEditOk l)) : PredB Try.prog 163 #[] (fun x : TEdit => .agg #[.int .i64 x.f0, .int .i64 x.f1, .int .i64 x.f2, .int .i64 x.f3, .int .i64 x.f4, .int .i64 x.f5]) mIsEdit l w := fun W x hx _ => impl_IsEdit x W (Lib.hid (H.out x hx))
theorem clo_Tag (l : List TInt) (w : World) : PredB Try.prog 166 #[] (fun x : TInt => .int .i64 x) (fun x => inR x 0 9) l w := fun W x _ _ => by
  change Calls Try.prog _ #[.int .i64 x] _ (Says (.bool (inR x 0 9)) W)
  have C := Lib.hid (impl_in x 0 9 W)
  generalize inR x 0 9 = r at C ⊢
  go_enter Try.func166, Try.ntmps166
  go_wp2_with fail
  refine C.out.mono ?_
  rintro e w1 ⟨rfl, rfl⟩
  go_wp2_with fail
  go_ret
  exact ⟨rfl, Below.refl _ _⟩
theorem cInt_eq (l : List Int) : cInt l = i64s l := by
  induction l with
  | nil => rfl
  | cons x t ih => show TInt.cells x ++ cInt t = _; rw [ih]; rfl
theorem all_TagI (l : List Int) (A : Option Addr) (n c lo hi : Nat) (w : World) (hn : n ≤ 1048576) (hcap : n ≤ c) (hr : Rd w lo hi 1 A n (i64s l)) :
    Calls Try.prog 165 #[.slice A n c, .func (.func 166) #[] #[]] w (Says (.bool (l.all fun x => inR x 0 9)) w) :=
  all_Tag (fun x => inR x 0 9) #[] l A n c lo hi w (by omega) hcap (by rw [cInt_eq]; exact hr) (clo_Tag l w)
def mIsTab (s : TSite) (b : List TNode) (e : List TEdit) (h : List Int) (c : Int) : Bool :=
  mIsSite s && mIsDoc b && decide (e.length ≤ 40) && e.all mIsEdit && mAsc h && (h.all fun x => inR x 0 9) && inR c (-1) 10000

set_option maxHeartbeats 16000000 in
theorem impl_IsTabC (s0_0 : TSite) (l0_1 : List TNode) (A0_1 : Option Addr) (n0_1 c0_1 lo0_1 hi0_1 : Nat) (l0_2 : List TEdit) (A0_2 : Option Addr) (n0_2 c0_2 lo0_2 hi0_2 : Nat) (l0_3 : List Int) (A0_3 : Option Addr) (n0_3 c0_3 lo0_3 hi0_3 : Nat) (p0_4 : Int) (w : World) (b0_0 : Hid (TSite.fit s0_0)) (h0_1 : n0_1 ≤ 1048576) (r0_1 : Rd w lo0_1 hi0_1 5 A0_1 n0_1 (cNode l0_1)) (k0_1 : n0_1 ≤ c0_1) (b0_1 : Hid (cNodeOk l0_1)) (h0_2 : n0_2 ≤ 1048576) (r0_2 : Rd w lo0_2 hi0_2 6 A0_2 n0_2 (cEdit l0_2)) (k0_2 : n0_2 ≤ c0_2) (b0_2 : Hid (cEditOk l0_2)) (h0_3 : n0_3 ≤ 1048576) (r0_3 : Rd w lo0_3 hi0_3 1 A0_3 n0_3 (i64s l0_3)) (k0_3 : n0_3 ≤ c0_3) (b0_3 : Hid (I64s l0_3)) :
    Calls Try.prog 104 #[.agg #[.int .i64 s0_0.f0, .int .i64 s0_0.f1, .slice A0_1 n0_1 c0_1, .slice A0_2 n0_2 c0_2, .slice A0_3 n0_3 c0_3, .int .i64 p0_4]] w (Says (.bool (mIsTab s0_0 l0_1 l0_2 l0_3 p0_4)) w) := by
  have R0_1 := Lib.hid r0_1
  clear r0_1
  have R0_2 := Lib.hid r0_2
  clear r0_2
  have R0_3 := Lib.hid r0_3
  clear r0_3
  have KB0 := Lib.hid (show BoxAt (w.alloc (.cells #[.int .i64 s0_0.f0, .int .i64 s0_0.f1, .slice A0_1 n0_1 c0_1, .slice A0_2 n0_2 c0_2, .slice A0_3 n0_3 c0_3, .int .i64 p0_4] 86)) w.heap.size 86 #[.int .i64 s0_0.f0, .int .i64 s0_0.f1, .slice A0_1 n0_1 c0_1, .slice A0_2 n0_2 c0_2, .slice A0_3 n0_3 c0_3, .int .i64 p0_4] from (box_new _ _ _ : BoxAt (w.alloc (.cells #[.int .i64 s0_0.f0, .int .i64 s0_0.f1, .slice A0_1 n0_1 c0_1, .slice A0_2 n0_2 c0_2, .slice A0_3 n0_3 c0_3, .int .i64 p0_4] 86)) w.heap.size 86 #[.int .i64 s0_0.f0, .int .i64 s0_0.f1, .slice A0_1 n0_1 c0_1, .slice A0_2 n0_2 c0_2, .slice A0_3 n0_3 c0_3, .int .i64 p0_4]))
  have HB := Lib.hid (show Below w.heap.size w (w.alloc (.cells #[.int .i64 s0_0.f0, .int .i64 s0_0.f1, .slice A0_1 n0_1 c0_1, .slice A0_2 n0_2 c0_2, .slice A0_3 n0_3 c0_3, .int .i64 p0_4] 86)) from (Below.refl _ _).alloc (by first | exact Nat.le_refl _ | (simp; done) | (simp; omega)) _)
  by_cases h_0 : (mIsSite s0_0) = true
  · skip
    by_cases h_1 : (mIsDoc l0_1) = true
    · skip
      by_cases h_2 : (decide (l0_2.length ≤ 40)) = true
      · skip
        by_cases h_3 : (l0_2.all mIsEdit) = true
        · skip
          by_cases h_4 : (mAsc l0_3) = true
          · skip
            by_cases h_5 : (l0_3.all fun x => inR x 0 9) = true
            · skip
              by_cases h_6 : (inR p0_4 (-1) 10000) = true
              · skip
                have HE := Lib.hid (show mIsTab s0_0 l0_1 l0_2 l0_3 p0_4 = true by first | (unfold mIsTab; simp only [h_0, h_1, h_2, h_3, h_4, h_5, h_6, Bool.not_true, Bool.not_false, Bool.true_and, Bool.false_and, Bool.and_true, Bool.and_false, Bool.true_or, Bool.false_or, Bool.or_true, Bool.or_false]) | simp [mIsTab, h_0, h_1, h_2, h_3, h_4, h_5, h_6])
                have D0 := Lib.hid (show (mIsSite s0_0) = true from h_0)
                have D1 := Lib.hid (show (mIsDoc l0_1) = true from h_1)
                have hl2 := rd_len TEdit.len R0_2.out (by decide)
                have g2 : decide ((n0_2 : Int) ≤ 40) = true := (show decide ((n0_2 : Int) ≤ 40) = decide (l0_2.length ≤ 40) by rw [hl2]; simp; omega).trans (by assumption)
                clear hl2
                have D3 := Lib.hid (show (l0_2.all mIsEdit) = true from h_3)
                have D4 := Lib.hid (show (mAsc l0_3) = true from h_4)
                have D5 := Lib.hid (show (l0_3.all fun x => inR x 0 9) = true from h_5)
                have D6 := Lib.hid (show (inR p0_4 (-1) 10000) = true from h_6)
                clear h_0 h_1 h_3 h_4 h_5 h_6
                go_enter Try.func104, Try.ntmps104
                go_wp2_with fail
                refine Calls.mono (impl_IsSite s0_0 _) ?_
                rw [D0.out]
                rintro e w1 ⟨rfl, hb⟩
                replace KB0 := Lib.hid (KB0.out.new hb)
                replace HB := Lib.hid (below_trans HB.out hb (Nat.le_refl _))
                clear hb
                have eb0_0 := KB0.out.at_ (j := 0) rfl
                have eb0_1 := KB0.out.at_ (j := 1) rfl
                have eb0_2 := KB0.out.at_ (j := 2) rfl
                have eb0_3 := KB0.out.at_ (j := 3) rfl
                have eb0_4 := KB0.out.at_ (j := 4) rfl
                have eb0_5 := KB0.out.at_ (j := 5) rfl
                go_wp2_with fail
                clear eb0_0 eb0_1 eb0_2 eb0_3 eb0_4 eb0_5
                refine Calls.mono (impl_IsDocumentC l0_1 A0_1 n0_1 c0_1 lo0_1 hi0_1 _ h0_1 (R0_1.out.new HB.out) k0_1 b0_1) ?_
                rw [D1.out]
                rintro e w2 ⟨rfl, hb⟩
                replace KB0 := Lib.hid (KB0.out.new hb)
                replace HB := Lib.hid (below_trans HB.out hb (Nat.le_refl _))
                clear hb
                have eb0_0 := KB0.out.at_ (j := 0) rfl
                have eb0_1 := KB0.out.at_ (j := 1) rfl
                have eb0_2 := KB0.out.at_ (j := 2) rfl
                have eb0_3 := KB0.out.at_ (j := 3) rfl
                have eb0_4 := KB0.out.at_ (j := 4) rfl
                have eb0_5 := KB0.out.at_ (j := 5) rfl
                go_wp2_with fail
                clear eb0_0 eb0_1 eb0_2 eb0_3 eb0_4 eb0_5
                refine Calls.mono (all_EdA mIsEdit #[] l0_2 A0_2 n0_2 c0_2 lo0_2 hi0_2 _ (by omega) k0_2 (R0_2.out.new HB.out) (clo_EdA l0_2 _ b0_2)) ?_
                rw [D3.out]
                rintro e w3 ⟨rfl, hb⟩
                replace KB0 := Lib.hid (KB0.out.new hb)
                replace HB := Lib.hid (below_trans HB.out hb (Nat.le_refl _))
                clear hb
                have eb0_0 := KB0.out.at_ (j := 0) rfl
                have eb0_1 := KB0.out.at_ (j := 1) rfl
                have eb0_2 := KB0.out.at_ (j := 2) rfl
                have eb0_3 := KB0.out.at_ (j := 3) rfl
                have eb0_4 := KB0.out.at_ (j := 4) rfl
                have eb0_5 := KB0.out.at_ (j := 5) rfl
                go_wp2_with fail
                clear eb0_0 eb0_1 eb0_2 eb0_3 eb0_4 eb0_5
                refine Calls.mono (impl_isAscending l0_3 A0_3 n0_3 c0_3 lo0_3 hi0_3 _ h0_3 (R0_3.out.new HB.out)) ?_
                rw [D4.out]
                rintro e w4 ⟨rfl, hb⟩
                replace KB0 := Lib.hid (KB0.out.new hb)
                replace HB := Lib.hid (below_trans HB.out hb (Nat.le_refl _))
                clear hb
                have eb0_0 := KB0.out.at_ (j := 0) rfl
                have eb0_1 := KB0.out.at_ (j := 1) rfl
                have eb0_2 := KB0.out.at_ (j := 2) rfl
                have eb0_3 := KB0.out.at_ (j := 3) rfl
                have eb0_4 := KB0.out.at_ (j := 4) rfl
                have eb0_5 := KB0.out.at_ (j := 5) rfl
                go_wp2_with fail
                clear eb0_0 eb0_1 eb0_2 eb0_3 eb0_4 eb0_5
                refine Calls.mono (all_TagI l0_3 A0_3 n0_3 c0_3 lo0_3 hi0_3 _ h0_3 k0_3 (R0_3.out.new HB.out)) ?_
                rw [D5.out]
                rintro e w5 ⟨rfl, hb⟩
                replace KB0 := Lib.hid (KB0.out.new hb)
                replace HB := Lib.hid (below_trans HB.out hb (Nat.le_refl _))
                clear hb
                have eb0_0 := KB0.out.at_ (j := 0) rfl
                have eb0_1 := KB0.out.at_ (j := 1) rfl
                have eb0_2 := KB0.out.at_ (j := 2) rfl
                have eb0_3 := KB0.out.at_ (j := 3) rfl
                have eb0_4 := KB0.out.at_ (j := 4) rfl
                have eb0_5 := KB0.out.at_ (j := 5) rfl
                go_wp2_with fail
                clear eb0_0 eb0_1 eb0_2 eb0_3 eb0_4 eb0_5
                refine Calls.mono (impl_in _ _ _ _) ?_
                rw [D6.out]
                rintro e w6 ⟨rfl, rfl⟩
                have eb0_0 := KB0.out.at_ (j := 0) rfl
                have eb0_1 := KB0.out.at_ (j := 1) rfl
                have eb0_2 := KB0.out.at_ (j := 2) rfl
                have eb0_3 := KB0.out.at_ (j := 3) rfl
                have eb0_4 := KB0.out.at_ (j := 4) rfl
                have eb0_5 := KB0.out.at_ (j := 5) rfl
                go_wp2_with fail
                go_ret
                exact ⟨by rw [HE.out]; rfl, HB.out⟩
              · have h_6 : (inR p0_4 (-1) 10000) = false := by simpa using h_6
                have HE := Lib.hid (show mIsTab s0_0 l0_1 l0_2 l0_3 p0_4 = false by first | (unfold mIsTab; simp only [h_0, h_1, h_2, h_3, h_4, h_5, h_6, Bool.not_true, Bool.not_false, Bool.true_and, Bool.false_and, Bool.and_true, Bool.and_false, Bool.true_or, Bool.false_or, Bool.or_true, Bool.or_false]) | simp [mIsTab, h_0, h_1, h_2, h_3, h_4, h_5, h_6])
                have D0 := Lib.hid (show (mIsSite s0_0) = true from h_0)
                have D1 := Lib.hid (show (mIsDoc l0_1) = true from h_1)
                have hl2 := rd_len TEdit.len R0_2.out (by decide)
                have g2 : decide ((n0_2 : Int) ≤ 40) = true := (show decide ((n0_2 : Int) ≤ 40) = decide (l0_2.length ≤ 40) by rw [hl2]; simp; omega).trans (by assumption)
                clear hl2
                have D3 := Lib.hid (show (l0_2.all mIsEdit) = true from h_3)
                have D4 := Lib.hid (show (mAsc l0_3) = true from h_4)
                have D5 := Lib.hid (show (l0_3.all fun x => inR x 0 9) = true from h_5)
                have D6 := Lib.hid (show (inR p0_4 (-1) 10000) = false from h_6)
                clear h_0 h_1 h_3 h_4 h_5 h_6
                go_enter Try.func104, Try.ntmps104
                go_wp2_with fail
                refine Calls.mono (impl_IsSite s0_0 _) ?_
                rw [D0.out]
                rintro e w1 ⟨rfl, hb⟩
                replace KB0 := Lib.hid (KB0.out.new hb)
                replace HB := Lib.hid (below_trans HB.out hb (Nat.le_refl _))
                clear hb
                have eb0_0 := KB0.out.at_ (j := 0) rfl
                have eb0_1 := KB0.out.at_ (j := 1) rfl
                have eb0_2 := KB0.out.at_ (j := 2) rfl
                have eb0_3 := KB0.out.at_ (j := 3) rfl
                have eb0_4 := KB0.out.at_ (j := 4) rfl
                have eb0_5 := KB0.out.at_ (j := 5) rfl
                go_wp2_with fail
                clear eb0_0 eb0_1 eb0_2 eb0_3 eb0_4 eb0_5
                refine Calls.mono (impl_IsDocumentC l0_1 A0_1 n0_1 c0_1 lo0_1 hi0_1 _ h0_1 (R0_1.out.new HB.out) k0_1 b0_1) ?_
                rw [D1.out]
                rintro e w2 ⟨rfl, hb⟩
                replace KB0 := Lib.hid (KB0.out.new hb)
                replace HB := Lib.hid (below_trans HB.out hb (Nat.le_refl _))
                clear hb
                have eb0_0 := KB0.out.at_ (j := 0) rfl
                have eb0_1 := KB0.out.at_ (j := 1) rfl
                have eb0_2 := KB0.out.at_ (j := 2) rfl
                have eb0_3 := KB0.out.at_ (j := 3) rfl
                have eb0_4 := KB0.out.at_ (j := 4) rfl
                have eb0_5 := KB0.out.at_ (j := 5) rfl
                go_wp2_with fail
                clear eb0_0 eb0_1 eb0_2 eb0_3 eb0_4 eb0_5
                refine Calls.mono (all_EdA mIsEdit #[] l0_2 A0_2 n0_2 c0_2 lo0_2 hi0_2 _ (by omega) k0_2 (R0_2.out.new HB.out) (clo_EdA l0_2 _ b0_2)) ?_
                rw [D3.out]
                rintro e w3 ⟨rfl, hb⟩
                replace KB0 := Lib.hid (KB0.out.new hb)
                replace HB := Lib.hid (below_trans HB.out hb (Nat.le_refl _))
                clear hb
                have eb0_0 := KB0.out.at_ (j := 0) rfl
                have eb0_1 := KB0.out.at_ (j := 1) rfl
                have eb0_2 := KB0.out.at_ (j := 2) rfl
                have eb0_3 := KB0.out.at_ (j := 3) rfl
                have eb0_4 := KB0.out.at_ (j := 4) rfl
                have eb0_5 := KB0.out.at_ (j := 5) rfl
                go_wp2_with fail
                clear eb0_0 eb0_1 eb0_2 eb0_3 eb0_4 eb0_5
                refine Calls.mono (impl_isAscending l0_3 A0_3 n0_3 c0_3 lo0_3 hi0_3 _ h0_3 (R0_3.out.new HB.out)) ?_
                rw [D4.out]
                rintro e w4 ⟨rfl, hb⟩
                replace KB0 := Lib.hid (KB0.out.new hb)
                replace HB := Lib.hid (below_trans HB.out hb (Nat.le_refl _))
                clear hb
                have eb0_0 := KB0.out.at_ (j := 0) rfl
                have eb0_1 := KB0.out.at_ (j := 1) rfl
                have eb0_2 := KB0.out.at_ (j := 2) rfl
                have eb0_3 := KB0.out.at_ (j := 3) rfl
                have eb0_4 := KB0.out.at_ (j := 4) rfl
                have eb0_5 := KB0.out.at_ (j := 5) rfl
                go_wp2_with fail
                clear eb0_0 eb0_1 eb0_2 eb0_3 eb0_4 eb0_5
                refine Calls.mono (all_TagI l0_3 A0_3 n0_3 c0_3 lo0_3 hi0_3 _ h0_3 k0_3 (R0_3.out.new HB.out)) ?_
                rw [D5.out]
                rintro e w5 ⟨rfl, hb⟩
                replace KB0 := Lib.hid (KB0.out.new hb)
                replace HB := Lib.hid (below_trans HB.out hb (Nat.le_refl _))
                clear hb
                have eb0_0 := KB0.out.at_ (j := 0) rfl
                have eb0_1 := KB0.out.at_ (j := 1) rfl
                have eb0_2 := KB0.out.at_ (j := 2) rfl
                have eb0_3 := KB0.out.at_ (j := 3) rfl
                have eb0_4 := KB0.out.at_ (j := 4) rfl
                have eb0_5 := KB0.out.at_ (j := 5) rfl
                go_wp2_with fail
                clear eb0_0 eb0_1 eb0_2 eb0_3 eb0_4 eb0_5
                refine Calls.mono (impl_in _ _ _ _) ?_
                rw [D6.out]
                rintro e w6 ⟨rfl, rfl⟩
                have eb0_0 := KB0.out.at_ (j := 0) rfl
                have eb0_1 := KB0.out.at_ (j := 1) rfl
                have eb0_2 := KB0.out.at_ (j := 2) rfl
                have eb0_3 := KB0.out.at_ (j := 3) rfl
                have eb0_4 := KB0.out.at_ (j := 4) rfl
                have eb0_5 := KB0.out.at_ (j := 5) rfl
                go_wp2_with fail
                go_ret
                exact ⟨by rw [HE.out]; rfl, HB.out⟩
            · have h_5 : (l0_3.all fun x => inR x 0 9) = false := by simpa using h_5
              have HE := Lib.hid (show mIsTab s0_0 l0_1 l0_2 l0_3 p0_4 = false by first | (unfold mIsTab; simp only [h_0, h_1, h_2, h_3, h_4, h_5, Bool.not_true, Bool.not_false, Bool.true_and, Bool.false_and, Bool.and_true, Bool.and_false, Bool.true_or, Bool.false_or, Bool.or_true, Bool.or_false]) | simp [mIsTab, h_0, h_1, h_2, h_3, h_4, h_5])
              have D0 := Lib.hid (show (mIsSite s0_0) = true from h_0)
              have D1 := Lib.hid (show (mIsDoc l0_1) = true from h_1)
              have hl2 := rd_len TEdit.len R0_2.out (by decide)
              have g2 : decide ((n0_2 : Int) ≤ 40) = true := (show decide ((n0_2 : Int) ≤ 40) = decide (l0_2.length ≤ 40) by rw [hl2]; simp; omega).trans (by assumption)
              clear hl2
              have D3 := Lib.hid (show (l0_2.all mIsEdit) = true from h_3)
              have D4 := Lib.hid (show (mAsc l0_3) = true from h_4)
              have D5 := Lib.hid (show (l0_3.all fun x => inR x 0 9) = false from h_5)
              clear h_0 h_1 h_3 h_4 h_5
              go_enter Try.func104, Try.ntmps104
              go_wp2_with fail
              refine Calls.mono (impl_IsSite s0_0 _) ?_
              rw [D0.out]
              rintro e w1 ⟨rfl, hb⟩
              replace KB0 := Lib.hid (KB0.out.new hb)
              replace HB := Lib.hid (below_trans HB.out hb (Nat.le_refl _))
              clear hb
              have eb0_0 := KB0.out.at_ (j := 0) rfl
              have eb0_1 := KB0.out.at_ (j := 1) rfl
              have eb0_2 := KB0.out.at_ (j := 2) rfl
              have eb0_3 := KB0.out.at_ (j := 3) rfl
              have eb0_4 := KB0.out.at_ (j := 4) rfl
              have eb0_5 := KB0.out.at_ (j := 5) rfl
              go_wp2_with fail
              clear eb0_0 eb0_1 eb0_2 eb0_3 eb0_4 eb0_5
              refine Calls.mono (impl_IsDocumentC l0_1 A0_1 n0_1 c0_1 lo0_1 hi0_1 _ h0_1 (R0_1.out.new HB.out) k0_1 b0_1) ?_
              rw [D1.out]
              rintro e w2 ⟨rfl, hb⟩
              replace KB0 := Lib.hid (KB0.out.new hb)
              replace HB := Lib.hid (below_trans HB.out hb (Nat.le_refl _))
              clear hb
              have eb0_0 := KB0.out.at_ (j := 0) rfl
              have eb0_1 := KB0.out.at_ (j := 1) rfl
              have eb0_2 := KB0.out.at_ (j := 2) rfl
              have eb0_3 := KB0.out.at_ (j := 3) rfl
              have eb0_4 := KB0.out.at_ (j := 4) rfl
              have eb0_5 := KB0.out.at_ (j := 5) rfl
              go_wp2_with fail
              clear eb0_0 eb0_1 eb0_2 eb0_3 eb0_4 eb0_5
              refine Calls.mono (all_EdA mIsEdit #[] l0_2 A0_2 n0_2 c0_2 lo0_2 hi0_2 _ (by omega) k0_2 (R0_2.out.new HB.out) (clo_EdA l0_2 _ b0_2)) ?_
              rw [D3.out]
              rintro e w3 ⟨rfl, hb⟩
              replace KB0 := Lib.hid (KB0.out.new hb)
              replace HB := Lib.hid (below_trans HB.out hb (Nat.le_refl _))
              clear hb
              have eb0_0 := KB0.out.at_ (j := 0) rfl
              have eb0_1 := KB0.out.at_ (j := 1) rfl
              have eb0_2 := KB0.out.at_ (j := 2) rfl
              have eb0_3 := KB0.out.at_ (j := 3) rfl
              have eb0_4 := KB0.out.at_ (j := 4) rfl
              have eb0_5 := KB0.out.at_ (j := 5) rfl
              go_wp2_with fail
              clear eb0_0 eb0_1 eb0_2 eb0_3 eb0_4 eb0_5
              refine Calls.mono (impl_isAscending l0_3 A0_3 n0_3 c0_3 lo0_3 hi0_3 _ h0_3 (R0_3.out.new HB.out)) ?_
              rw [D4.out]
              rintro e w4 ⟨rfl, hb⟩
              replace KB0 := Lib.hid (KB0.out.new hb)
              replace HB := Lib.hid (below_trans HB.out hb (Nat.le_refl _))
              clear hb
              have eb0_0 := KB0.out.at_ (j := 0) rfl
              have eb0_1 := KB0.out.at_ (j := 1) rfl
              have eb0_2 := KB0.out.at_ (j := 2) rfl
              have eb0_3 := KB0.out.at_ (j := 3) rfl
              have eb0_4 := KB0.out.at_ (j := 4) rfl
              have eb0_5 := KB0.out.at_ (j := 5) rfl
              go_wp2_with fail
              clear eb0_0 eb0_1 eb0_2 eb0_3 eb0_4 eb0_5
              refine Calls.mono (all_TagI l0_3 A0_3 n0_3 c0_3 lo0_3 hi0_3 _ h0_3 k0_3 (R0_3.out.new HB.out)) ?_
              rw [D5.out]
              rintro e w5 ⟨rfl, hb⟩
              replace KB0 := Lib.hid (KB0.out.new hb)
              replace HB := Lib.hid (below_trans HB.out hb (Nat.le_refl _))
              clear hb
              have eb0_0 := KB0.out.at_ (j := 0) rfl
              have eb0_1 := KB0.out.at_ (j := 1) rfl
              have eb0_2 := KB0.out.at_ (j := 2) rfl
              have eb0_3 := KB0.out.at_ (j := 3) rfl
              have eb0_4 := KB0.out.at_ (j := 4) rfl
              have eb0_5 := KB0.out.at_ (j := 5) rfl
              go_wp2_with fail
              go_ret
              exact ⟨by rw [HE.out]; rfl, HB.out⟩
          · have h_4 : (mAsc l0_3) = false := by simpa using h_4
            have HE := Lib.hid (show mIsTab s0_0 l0_1 l0_2 l0_3 p0_4 = false by first | (unfold mIsTab; simp only [h_0, h_1, h_2, h_3, h_4, Bool.not_true, Bool.not_false, Bool.true_and, Bool.false_and, Bool.and_true, Bool.and_false, Bool.true_or, Bool.false_or, Bool.or_true, Bool.or_false]) | simp [mIsTab, h_0, h_1, h_2, h_3, h_4])
            have D0 := Lib.hid (show (mIsSite s0_0) = true from h_0)
            have D1 := Lib.hid (show (mIsDoc l0_1) = true from h_1)
            have hl2 := rd_len TEdit.len R0_2.out (by decide)
            have g2 : decide ((n0_2 : Int) ≤ 40) = true := (show decide ((n0_2 : Int) ≤ 40) = decide (l0_2.length ≤ 40) by rw [hl2]; simp; omega).trans (by assumption)
            clear hl2
            have D3 := Lib.hid (show (l0_2.all mIsEdit) = true from h_3)
            have D4 := Lib.hid (show (mAsc l0_3) = false from h_4)
            clear h_0 h_1 h_3 h_4
            go_enter Try.func104, Try.ntmps104
            go_wp2_with fail
            refine Calls.mono (impl_IsSite s0_0 _) ?_
            rw [D0.out]
            rintro e w1 ⟨rfl, hb⟩
            replace KB0 := Lib.hid (KB0.out.new hb)
            replace HB := Lib.hid (below_trans HB.out hb (Nat.le_refl _))
            clear hb
            have eb0_0 := KB0.out.at_ (j := 0) rfl
            have eb0_1 := KB0.out.at_ (j := 1) rfl
            have eb0_2 := KB0.out.at_ (j := 2) rfl
            have eb0_3 := KB0.out.at_ (j := 3) rfl
            have eb0_4 := KB0.out.at_ (j := 4) rfl
            have eb0_5 := KB0.out.at_ (j := 5) rfl
            go_wp2_with fail
            clear eb0_0 eb0_1 eb0_2 eb0_3 eb0_4 eb0_5
            refine Calls.mono (impl_IsDocumentC l0_1 A0_1 n0_1 c0_1 lo0_1 hi0_1 _ h0_1 (R0_1.out.new HB.out) k0_1 b0_1) ?_
            rw [D1.out]
            rintro e w2 ⟨rfl, hb⟩
            replace KB0 := Lib.hid (KB0.out.new hb)
            replace HB := Lib.hid (below_trans HB.out hb (Nat.le_refl _))
            clear hb
            have eb0_0 := KB0.out.at_ (j := 0) rfl
            have eb0_1 := KB0.out.at_ (j := 1) rfl
            have eb0_2 := KB0.out.at_ (j := 2) rfl
            have eb0_3 := KB0.out.at_ (j := 3) rfl
            have eb0_4 := KB0.out.at_ (j := 4) rfl
            have eb0_5 := KB0.out.at_ (j := 5) rfl
            go_wp2_with fail
            clear eb0_0 eb0_1 eb0_2 eb0_3 eb0_4 eb0_5
            refine Calls.mono (all_EdA mIsEdit #[] l0_2 A0_2 n0_2 c0_2 lo0_2 hi0_2 _ (by omega) k0_2 (R0_2.out.new HB.out) (clo_EdA l0_2 _ b0_2)) ?_
            rw [D3.out]
            rintro e w3 ⟨rfl, hb⟩
            replace KB0 := Lib.hid (KB0.out.new hb)
            replace HB := Lib.hid (below_trans HB.out hb (Nat.le_refl _))
            clear hb
            have eb0_0 := KB0.out.at_ (j := 0) rfl
            have eb0_1 := KB0.out.at_ (j := 1) rfl
            have eb0_2 := KB0.out.at_ (j := 2) rfl
            have eb0_3 := KB0.out.at_ (j := 3) rfl
            have eb0_4 := KB0.out.at_ (j := 4) rfl
            have eb0_5 := KB0.out.at_ (j := 5) rfl
            go_wp2_with fail
            clear eb0_0 eb0_1 eb0_2 eb0_3 eb0_4 eb0_5
            refine Calls.mono (impl_isAscending l0_3 A0_3 n0_3 c0_3 lo0_3 hi0_3 _ h0_3 (R0_3.out.new HB.out)) ?_
            rw [D4.out]
            rintro e w4 ⟨rfl, hb⟩
            replace KB0 := Lib.hid (KB0.out.new hb)
            replace HB := Lib.hid (below_trans HB.out hb (Nat.le_refl _))
            clear hb
            have eb0_0 := KB0.out.at_ (j := 0) rfl
            have eb0_1 := KB0.out.at_ (j := 1) rfl
            have eb0_2 := KB0.out.at_ (j := 2) rfl
            have eb0_3 := KB0.out.at_ (j := 3) rfl
            have eb0_4 := KB0.out.at_ (j := 4) rfl
            have eb0_5 := KB0.out.at_ (j := 5) rfl
            go_wp2_with fail
            go_ret
            exact ⟨by rw [HE.out]; rfl, HB.out⟩
        · have h_3 : (l0_2.all mIsEdit) = false := by simpa using h_3
          have HE := Lib.hid (show mIsTab s0_0 l0_1 l0_2 l0_3 p0_4 = false by first | (unfold mIsTab; simp only [h_0, h_1, h_2, h_3, Bool.not_true, Bool.not_false, Bool.true_and, Bool.false_and, Bool.and_true, Bool.and_false, Bool.true_or, Bool.false_or, Bool.or_true, Bool.or_false]) | simp [mIsTab, h_0, h_1, h_2, h_3])
          have D0 := Lib.hid (show (mIsSite s0_0) = true from h_0)
          have D1 := Lib.hid (show (mIsDoc l0_1) = true from h_1)
          have hl2 := rd_len TEdit.len R0_2.out (by decide)
          have g2 : decide ((n0_2 : Int) ≤ 40) = true := (show decide ((n0_2 : Int) ≤ 40) = decide (l0_2.length ≤ 40) by rw [hl2]; simp; omega).trans (by assumption)
          clear hl2
          have D3 := Lib.hid (show (l0_2.all mIsEdit) = false from h_3)
          clear h_0 h_1 h_3
          go_enter Try.func104, Try.ntmps104
          go_wp2_with fail
          refine Calls.mono (impl_IsSite s0_0 _) ?_
          rw [D0.out]
          rintro e w1 ⟨rfl, hb⟩
          replace KB0 := Lib.hid (KB0.out.new hb)
          replace HB := Lib.hid (below_trans HB.out hb (Nat.le_refl _))
          clear hb
          have eb0_0 := KB0.out.at_ (j := 0) rfl
          have eb0_1 := KB0.out.at_ (j := 1) rfl
          have eb0_2 := KB0.out.at_ (j := 2) rfl
          have eb0_3 := KB0.out.at_ (j := 3) rfl
          have eb0_4 := KB0.out.at_ (j := 4) rfl
          have eb0_5 := KB0.out.at_ (j := 5) rfl
          go_wp2_with fail
          clear eb0_0 eb0_1 eb0_2 eb0_3 eb0_4 eb0_5
          refine Calls.mono (impl_IsDocumentC l0_1 A0_1 n0_1 c0_1 lo0_1 hi0_1 _ h0_1 (R0_1.out.new HB.out) k0_1 b0_1) ?_
          rw [D1.out]
          rintro e w2 ⟨rfl, hb⟩
          replace KB0 := Lib.hid (KB0.out.new hb)
          replace HB := Lib.hid (below_trans HB.out hb (Nat.le_refl _))
          clear hb
          have eb0_0 := KB0.out.at_ (j := 0) rfl
          have eb0_1 := KB0.out.at_ (j := 1) rfl
          have eb0_2 := KB0.out.at_ (j := 2) rfl
          have eb0_3 := KB0.out.at_ (j := 3) rfl
          have eb0_4 := KB0.out.at_ (j := 4) rfl
          have eb0_5 := KB0.out.at_ (j := 5) rfl
          go_wp2_with fail
          clear eb0_0 eb0_1 eb0_2 eb0_3 eb0_4 eb0_5
          refine Calls.mono (all_EdA mIsEdit #[] l0_2 A0_2 n0_2 c0_2 lo0_2 hi0_2 _ (by omega) k0_2 (R0_2.out.new HB.out) (clo_EdA l0_2 _ b0_2)) ?_
          rw [D3.out]
          rintro e w3 ⟨rfl, hb⟩
          replace KB0 := Lib.hid (KB0.out.new hb)
          replace HB := Lib.hid (below_trans HB.out hb (Nat.le_refl _))
          clear hb
          have eb0_0 := KB0.out.at_ (j := 0) rfl
          have eb0_1 := KB0.out.at_ (j := 1) rfl
          have eb0_2 := KB0.out.at_ (j := 2) rfl
          have eb0_3 := KB0.out.at_ (j := 3) rfl
          have eb0_4 := KB0.out.at_ (j := 4) rfl
          have eb0_5 := KB0.out.at_ (j := 5) rfl
          go_wp2_with fail
          go_ret
          exact ⟨by rw [HE.out]; rfl, HB.out⟩
      · have h_2 : (decide (l0_2.length ≤ 40)) = false := by simpa using h_2
        have HE := Lib.hid (show mIsTab s0_0 l0_1 l0_2 l0_3 p0_4 = false by first | (unfold mIsTab; simp only [h_0, h_1, h_2, Bool.not_true, Bool.not_false, Bool.true_and, Bool.false_and, Bool.and_true, Bool.and_false, Bool.true_or, Bool.false_or, Bool.or_true, Bool.or_false]) | simp [mIsTab, h_0, h_1, h_2])
        have D0 := Lib.hid (show (mIsSite s0_0) = true from h_0)
        have D1 := Lib.hid (show (mIsDoc l0_1) = true from h_1)
        have hl2 := rd_len TEdit.len R0_2.out (by decide)
        have g2 : decide ((n0_2 : Int) ≤ 40) = false := (show decide ((n0_2 : Int) ≤ 40) = decide (l0_2.length ≤ 40) by rw [hl2]; simp; omega).trans (by assumption)
        clear hl2
        clear h_0 h_1
        go_enter Try.func104, Try.ntmps104
        go_wp2_with fail
        refine Calls.mono (impl_IsSite s0_0 _) ?_
        rw [D0.out]
        rintro e w1 ⟨rfl, hb⟩
        replace KB0 := Lib.hid (KB0.out.new hb)
        replace HB := Lib.hid (below_trans HB.out hb (Nat.le_refl _))
        clear hb
        have eb0_0 := KB0.out.at_ (j := 0) rfl
        have eb0_1 := KB0.out.at_ (j := 1) rfl
        have eb0_2 := KB0.out.at_ (j := 2) rfl
        have eb0_3 := KB0.out.at_ (j := 3) rfl
        have eb0_4 := KB0.out.at_ (j := 4) rfl
        have eb0_5 := KB0.out.at_ (j := 5) rfl
        go_wp2_with fail
        clear eb0_0 eb0_1 eb0_2 eb0_3 eb0_4 eb0_5
        refine Calls.mono (impl_IsDocumentC l0_1 A0_1 n0_1 c0_1 lo0_1 hi0_1 _ h0_1 (R0_1.out.new HB.out) k0_1 b0_1) ?_
        rw [D1.out]
        rintro e w2 ⟨rfl, hb⟩
        replace KB0 := Lib.hid (KB0.out.new hb)
        replace HB := Lib.hid (below_trans HB.out hb (Nat.le_refl _))
        clear hb
        have eb0_0 := KB0.out.at_ (j := 0) rfl
        have eb0_1 := KB0.out.at_ (j := 1) rfl
        have eb0_2 := KB0.out.at_ (j := 2) rfl
        have eb0_3 := KB0.out.at_ (j := 3) rfl
        have eb0_4 := KB0.out.at_ (j := 4) rfl
        have eb0_5 := KB0.out.at_ (j := 5) rfl
        go_wp2_with fail
        go_ret
        exact ⟨by rw [HE.out]; rfl, HB.out⟩
    · have h_1 : (mIsDoc l0_1) = false := by simpa using h_1
      have HE := Lib.hid (show mIsTab s0_0 l0_1 l0_2 l0_3 p0_4 = false by first | (unfold mIsTab; simp only [h_0, h_1, Bool.not_true, Bool.not_false, Bool.true_and, Bool.false_and, Bool.and_true, Bool.and_false, Bool.true_or, Bool.false_or, Bool.or_true, Bool.or_false]) | simp [mIsTab, h_0, h_1])
      have D0 := Lib.hid (show (mIsSite s0_0) = true from h_0)
      have D1 := Lib.hid (show (mIsDoc l0_1) = false from h_1)
      clear h_0 h_1
      go_enter Try.func104, Try.ntmps104
      go_wp2_with fail
      refine Calls.mono (impl_IsSite s0_0 _) ?_
      rw [D0.out]
      rintro e w1 ⟨rfl, hb⟩
      replace KB0 := Lib.hid (KB0.out.new hb)
      replace HB := Lib.hid (below_trans HB.out hb (Nat.le_refl _))
      clear hb
      have eb0_0 := KB0.out.at_ (j := 0) rfl
      have eb0_1 := KB0.out.at_ (j := 1) rfl
      have eb0_2 := KB0.out.at_ (j := 2) rfl
      have eb0_3 := KB0.out.at_ (j := 3) rfl
      have eb0_4 := KB0.out.at_ (j := 4) rfl
      have eb0_5 := KB0.out.at_ (j := 5) rfl
      go_wp2_with fail
      clear eb0_0 eb0_1 eb0_2 eb0_3 eb0_4 eb0_5
      refine Calls.mono (impl_IsDocumentC l0_1 A0_1 n0_1 c0_1 lo0_1 hi0_1 _ h0_1 (R0_1.out.new HB.out) k0_1 b0_1) ?_
      rw [D1.out]
      rintro e w2 ⟨rfl, hb⟩
      replace KB0 := Lib.hid (KB0.out.new hb)
      replace HB := Lib.hid (below_trans HB.out hb (Nat.le_refl _))
      clear hb
      have eb0_0 := KB0.out.at_ (j := 0) rfl
      have eb0_1 := KB0.out.at_ (j := 1) rfl
      have eb0_2 := KB0.out.at_ (j := 2) rfl
      have eb0_3 := KB0.out.at_ (j := 3) rfl
      have eb0_4 := KB0.out.at_ (j := 4) rfl
      have eb0_5 := KB0.out.at_ (j := 5) rfl
      go_wp2_with fail
      go_ret
      exact ⟨by rw [HE.out]; rfl, HB.out⟩
  · have h_0 : (mIsSite s0_0) = false := by simpa using h_0
    have HE := Lib.hid (show mIsTab s0_0 l0_1 l0_2 l0_3 p0_4 = false by first | (unfold mIsTab; simp only [h_0, Bool.not_true, Bool.not_false, Bool.true_and, Bool.false_and, Bool.and_true, Bool.and_false, Bool.true_or, Bool.false_or, Bool.or_true, Bool.or_false]) | simp [mIsTab, h_0])
    have D0 := Lib.hid (show (mIsSite s0_0) = false from h_0)
    clear h_0
    go_enter Try.func104, Try.ntmps104
    go_wp2_with fail
    refine Calls.mono (impl_IsSite s0_0 _) ?_
    rw [D0.out]
    rintro e w1 ⟨rfl, hb⟩
    replace KB0 := Lib.hid (KB0.out.new hb)
    replace HB := Lib.hid (below_trans HB.out hb (Nat.le_refl _))
    clear hb
    have eb0_0 := KB0.out.at_ (j := 0) rfl
    have eb0_1 := KB0.out.at_ (j := 1) rfl
    have eb0_2 := KB0.out.at_ (j := 2) rfl
    have eb0_3 := KB0.out.at_ (j := 3) rfl
    have eb0_4 := KB0.out.at_ (j := 4) rfl
    have eb0_5 := KB0.out.at_ (j := 5) rfl
    go_wp2_with fail
    go_ret
    exact ⟨by rw [HE.out]; rfl, HB.out⟩

end Go.Proofs.Ytoclpdbgmpdbmaa
