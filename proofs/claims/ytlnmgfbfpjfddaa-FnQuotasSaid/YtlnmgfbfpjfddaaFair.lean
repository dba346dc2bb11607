/- IsFair, of the program and of the model. -/
import Derived.Test.YtlnmgfbfpjfddaaCanAdd
import Derived.Test.YtlnmgfbfpjfddaaFun
import Derived.Deep.LoopGhost
namespace Go.Proofs.Ytlnmgfbfpjfddaa
open Go Go.ChangeShapes Go.WideShapes Go.ChangeAt Go.RowKit Go.Lib
set_option linter.unusedVariables false
set_option linter.unusedSimpArgs false
set_option maxRecDepth 100000
def mFair (l : List TRule) : Bool := l.all mIsRule && decide (l.length ≤ 20) && decide (mCnt l 1 ≤ 6) && decide (mCnt l 2 ≤ 6) && decide (mCnt l 3 ≤ 6) && decide (mCnt l 4 ≤ 6) && decide (mCnt l 5 ≤ 6)
theorem cnt_small {l : List TRule} (h : ∀ x ∈ l, mCnt l x.f0 ≤ 6) (e : Int) : mCnt l e ≤ 6 := by
  rcases Nat.eq_zero_or_pos (mCnt l e) with h0 | h0
  · omega
  · have h1 : 0 < (l.filter fun x => x.f0 == e).length := h0
    obtain ⟨x, hx⟩ := List.exists_mem_of_length_pos h1
    have := List.mem_filter.1 hx
    have he : x.f0 = e := by simpa using this.2
    rw [← he]
    exact h x this.1
def pFair (l : List TRule) (x : TRule) : Bool := mIsRule x && decide (mCnt l x.f0 ≤ 6)
theorem fair_eq (l : List TRule) : mFair l = (l.all (pFair l) && decide (l.length ≤ 20)) := by
  rw [Bool.eq_iff_iff]
  simp only [mFair, pFair, Bool.and_eq_true, decide_eq_true_eq, List.all_eq_true]
  constructor
  · rintro ⟨⟨⟨⟨⟨⟨h, hl⟩, h1⟩, h2⟩, h3⟩, h4⟩, h5⟩
    refine ⟨fun x hx => ⟨h x hx, ?_⟩, hl⟩
    have he := rule_ext (h x hx)
    have : x.f0 = 1 ∨ x.f0 = 2 ∨ x.f0 = 3 ∨ x.f0 = 4 ∨ x.f0 = 5 := by simp [inR] at he; omega
    rcases this with e | e | e | e | e <;> rw [e] <;> assumption
  · rintro ⟨h, hl⟩
    have hc := cnt_small (fun x hx => (h x hx).2)
    exact ⟨⟨⟨⟨⟨⟨fun x hx => (h x hx).1, hl⟩, hc 1⟩, hc 2⟩, hc 3⟩, hc 4⟩, hc 5⟩
theorem all_step2 {α : Type} {p : α → Bool} {l : List α} {k : Nat} {x : α} (h : (l.take k).all p = true) (hz : l[k]? = some x) (hq : p x = true) : (l.take (k + 1)).all p = true := by
  rw [List.take_add_one, hz, List.all_append, h]; simp [hq]
theorem all_fails2 {α : Type} {p : α → Bool} {l : List α} {k : Nat} {x : α} (hz : l[k]? = some x) (hq : p x = false) : l.all p = false :=
  List.all_eq_false.2 ⟨x, mem_of_get hz, by rw [hq]; decide⟩

theorem rd_tailFairR {w : World} {lo hi n b off : Nat} {x : TRule} {l : List TRule} (h : Rd w lo hi 8 (some ⟨b, off, none⟩) (n + 1) (cRule (x :: l))) :
    Rd w lo hi 8 (some ⟨b, off + 8, none⟩) n (cRule l) := by
  have hc : cRule (x :: l) = TRule.cells x ++ cRule l := rfl
  refine ⟨?_, fun hn => ?_⟩
  · have := h.1
    rw [hc, List.length_append, TRule.len] at this
    omega
  · obtain ⟨b', off', e, h1, h2, h3⟩ := h.2 (by omega)
    cases e
    refine ⟨b, off + 8, rfl, h1, h2, fun j u hu => ?_⟩
    rw [Nat.add_assoc]
    refine h3 (8 + j) u ?_
    rw [hc, List.getElem?_append_right (by rw [TRule.len]; omega), TRule.len]
    simpa using hu

set_option maxHeartbeats 4000000 in
theorem any_FairR (p : TRule → Bool) (lb : Array Value) (l : List TRule) (A : Option Addr) (n c lo hi : Nat) (w : World) (hn : n ≤ 17592186044416) (hcap : n ≤ c)
    (hr : Rd w lo hi 8 A n (cRule l)) (hp : PredB Try.prog 191 lb (fun x : TRule => .agg #[.int .i64 x.f0, .int .i64 x.f1, .int .i64 x.f2, .int .i64 x.f3, .int .i64 x.f4, .int .i64 x.f5, .int .i64 x.f6, .int .i64 x.f7]) p l w) :
    Calls Try.prog 152 #[.slice A n c, .func (.func 191) #[] lb] w (Says (.bool (l.any p)) w) := by
  have HR := Lib.hid hr
  have HP := Lib.hid hp
  clear hr hp
  go_enter Try.func152, Try.ntmps152
  go_wp2_with fail
  go_loopg [0] n (fun gg v wr => ∃ (A' : Option Addr) (n' c' : Nat) (l' : List TRule), v = .slice A' n' c' ∧ n' ≤ gg ∧ n' ≤ n ∧ n' ≤ c' ∧ Hid (Rd wr lo hi 8 A' n' (cRule l')) ∧ Hid (∀ x, x ∈ l' → x ∈ l) ∧ Hid (l.any p = l'.any p) ∧ Hid (Below w.heap.size w wr))
  case atStart => exact ⟨_, _, _, l, rfl, Nat.le_refl _, Nat.le_refl _, hcap, HR, Lib.hid (fun _ h => h), Lib.hid rfl, Lib.hid (Below.refl _ _)⟩
  case round =>
    obtain ⟨A', n', c', l', rfl, hg, hn', hcc, HR', HM, HA, HB⟩ := hrel
    cases l' with
    | nil =>
      obtain rfl : n' = 0 := by have := HR'.out.1; simp at this; omega
      have HE := Lib.hid (show l.any p = false from HA.out)
      go_wp2_with fail
      go_ret
      exact ⟨by rw [HE.out]; rfl, HB.out⟩
    | cons x t =>
      have HL := Lib.hid (rd_len TRule.len HR'.out (by decide))
      obtain ⟨m, rfl⟩ : ∃ m, n' = m + 1 := ⟨t.length, by have := HL.out; simp at this; omega⟩
      obtain ⟨b, off, x', rfl, _, _, hz, hc⟩ := rd_elem (k := 0) TRule.len HR'.out HL.out (by omega)
      obtain rfl : x = x' := by simpa using hz
      have c0 : wr.cell? ⟨b, off, none⟩ = some (.int .i64 x.f0) := by simpa using hc 0 _ rfl
      have c1 : wr.cell? ⟨b, off + 1, none⟩ = some (.int .i64 x.f1) := by simpa using hc 1 _ rfl
      have c2 : wr.cell? ⟨b, off + 2, none⟩ = some (.int .i64 x.f2) := by simpa using hc 2 _ rfl
      have c3 : wr.cell? ⟨b, off + 3, none⟩ = some (.int .i64 x.f3) := by simpa using hc 3 _ rfl
      have c4 : wr.cell? ⟨b, off + 4, none⟩ = some (.int .i64 x.f4) := by simpa using hc 4 _ rfl
      have c5 : wr.cell? ⟨b, off + 5, none⟩ = some (.int .i64 x.f5) := by simpa using hc 5 _ rfl
      have c6 : wr.cell? ⟨b, off + 6, none⟩ = some (.int .i64 x.f6) := by simpa using hc 6 _ rfl
      have c7 : wr.cell? ⟨b, off + 7, none⟩ = some (.int .i64 x.f7) := by simpa using hc 7 _ rfl
      have HT := Lib.hid (rd_tailFairR HR'.out)
      have hcall := HP.out wr x (HM.out x (by simp)) HB.out
      have HMt := Lib.hid (fun y (h : y ∈ t) => HM.out y (List.mem_cons_of_mem _ h))
      clear hc hz HR' HM
      cases hq : p x with
      | true =>
        rw [hq] at hcall
        have HE := Lib.hid (show l.any p = true by rw [HA.out, List.any_cons, hq]; rfl)
        clear hq HA
        go_wp2_with (go_at_call 191; refine hcall.mono ?_; rintro e w1 ⟨rfl, hb1⟩; have HB1 := Lib.hid hb1; clear hb1)
        go_ret
        exact ⟨by rw [HE.out]; rfl, below_trans HB.out HB1.out (Nat.le_refl _)⟩
      | false =>
        rw [hq] at hcall
        have HE := Lib.hid (show l.any p = t.any p by rw [HA.out, List.any_cons, hq]; rfl)
        clear hq HA
        rcases Nat.eq_zero_or_pos m with rfl | hm
        · obtain rfl : t = [] := by have := HL.out; simpa using this
          go_wp2_with (go_at_call 191; refine hcall.mono ?_; rintro e w1 ⟨rfl, hb1⟩; have HB1 := Lib.hid hb1; clear hb1)
          go_roundg 0
          case measure => omega
          case rel => exact ⟨_, _, _, [], rfl, Nat.le_refl _, by omega, by omega, Lib.hid Rd.empty, HMt, HE, Lib.hid (below_trans HB.out HB1.out (Nat.le_refl _))⟩
        · go_wp2_with (go_at_call 191; refine hcall.mono ?_; rintro e w1 ⟨rfl, hb1⟩; have HB1 := Lib.hid hb1; clear hb1)
          go_roundg m
          case measure => omega
          case rel => exact ⟨_, _, _, t, rfl, by omega, by omega, by omega, Lib.hid (HT.out.new HB1.out), HMt, HE, Lib.hid (below_trans HB.out HB1.out (Nat.le_refl _))⟩

theorem nots_FairR (p : TRule → Bool) (lb : Array Value) (l : List TRule) (B : Nat) (w : World) (hq : w.cell? ⟨B, 0, none⟩ = some (.func (.func 17) #[] lb))
    (hp : PredB Try.prog 17 lb (fun x : TRule => .agg #[.int .i64 x.f0, .int .i64 x.f1, .int .i64 x.f2, .int .i64 x.f3, .int .i64 x.f4, .int .i64 x.f5, .int .i64 x.f6, .int .i64 x.f7]) p l w) : PredB Try.prog 191 #[.pointer (some ⟨B, 0, none⟩)] (fun x : TRule => .agg #[.int .i64 x.f0, .int .i64 x.f1, .int .i64 x.f2, .int .i64 x.f3, .int .i64 x.f4, .int .i64 x.f5, .int .i64 x.f6, .int .i64 x.f7]) (fun x => !p x) l w := fun W x hx hb => by
  have c0 := cell_nw hb hq
  have HC := Lib.hid (show Calls Try.prog 17 (#[.agg #[.int .i64 x.f0, .int .i64 x.f1, .int .i64 x.f2, .int .i64 x.f3, .int .i64 x.f4, .int .i64 x.f5, .int .i64 x.f6, .int .i64 x.f7]] ++ lb) (W.alloc (.cells #[.int .i64 x.f0, .int .i64 x.f1, .int .i64 x.f2, .int .i64 x.f3, .int .i64 x.f4, .int .i64 x.f5, .int .i64 x.f6, .int .i64 x.f7] 28)) _ from hp _ x hx (hb.alloc (by have := hb.size; omega) _))
  have m0 : B < W.heap.size := World.block_lt_of_cell? _ _ c0
  have n0 : B ≠ W.heap.size := Nat.ne_of_lt m0
  clear hb hq hp
  change Calls Try.prog _ #[.agg #[.int .i64 x.f0, .int .i64 x.f1, .int .i64 x.f2, .int .i64 x.f3, .int .i64 x.f4, .int .i64 x.f5, .int .i64 x.f6, .int .i64 x.f7], .pointer (some ⟨B, 0, none⟩)] _ (Says (.bool (!p x)) W)
  generalize p x = q at HC ⊢
  cases q
  all_goals
    go_enter Try.func191, Try.ntmps191
    go_wp2_with (go_at_call 17; refine HC.out.mono ?_; rintro e w1 ⟨rfl, hb1⟩; have HB1 := Lib.hid (below_trans ((Below.refl _ _).alloc (Nat.le_refl _) _) hb1 (by simp)); clear hb1)
    go_ret
    exact ⟨rfl, HB1.out⟩
set_option maxHeartbeats 4000000 in
theorem all_FairR (p : TRule → Bool) (lb : Array Value) (l : List TRule) (A : Option Addr) (n c lo hi : Nat) (w : World) (hn : n ≤ 17592186044416) (hcap : n ≤ c)
    (hr : Rd w lo hi 8 A n (cRule l)) (hp : PredB Try.prog 17 lb (fun x : TRule => .agg #[.int .i64 x.f0, .int .i64 x.f1, .int .i64 x.f2, .int .i64 x.f3, .int .i64 x.f4, .int .i64 x.f5, .int .i64 x.f6, .int .i64 x.f7]) p l w) :
    Calls Try.prog 136 #[.slice A n c, .func (.func 17) #[] lb] w (Says (.bool (l.all p)) w) := by
  have hmf : ∀ (fn : Fn) (first cap : Array Value) (w : World), (Instr.makeFunc fn first cap).run Try.prog w = .ok (.func fn first cap) w := fun _ _ _ _ => rfl
  have HC := any_FairR (fun x => !p x) #[.pointer (some ⟨w.heap.size, 0, none⟩)] l A n c lo hi (w.alloc (.cells #[.func (.func 17) #[] lb] 37)) hn hcap (hr.alloc _)
    (nots_FairR p lb l w.heap.size _ (cell_newest (by simp) rfl) (fun W x hx hb => hp W x hx (below_trans ((Below.refl _ _).alloc (Nat.le_refl _) _) hb (by simp))))
  have hE : l.all p = !(l.any fun x => !p x) := by rw [List.all_eq_not_any_not]
  rw [hE]
  clear hr hp hE
  generalize (l.any fun x => !p x) = q at HC ⊢
  have HC := Lib.hid HC
  cases q
  all_goals
    go_enter Try.func136, Try.ntmps136
    go_wp2_with fail
    refine HC.out.mono ?_
    rintro e w1 ⟨rfl, hb1⟩
    have HB1 := Lib.hid (below_trans ((Below.refl _ _).alloc (Nat.le_refl _) _) hb1 (by simp))
    clear hb1
    go_wp2_with fail
    go_ret
    exact ⟨rfl, HB1.out⟩

set_option maxHeartbeats 20000000 in
theorem impl_IsFairC (l : List TRule) (A : Option Addr) (n c lo hi : Nat) (w : World) (hn : n ≤ 1048576) (hr : Rd w lo hi 8 A n (cRule l)) (hcap : n ≤ c) (H : Hid (cRuleOk l)) :
    Calls Try.prog 50 #[.slice A n c] w (Says (.bool (mFair l)) w) := by
  have HL := rd_len TRule.len hr (by decide)
  have C0 := Lib.hid (fun W (hr : Rd W lo hi 8 A n (cRule l)) => impl_quotaOf l A n c lo hi W hn hr)
  have CA : ∀ W (hr : Rd W lo hi 8 A n (cRule l)), _ := fun W hr => all_FairR mIsRule #[] l A n c lo hi W (by omega) hcap hr (fun W x _ _ => impl_IsRule x W)
  have i0 : ∀ w, (Instr.index 161 (.agg (vQ l)) (.int .i64 0)).run Try.prog w = .ok (.int .i64 0) w := fun _ => by kernel_rfl
  have i1 : ∀ w, (Instr.index 161 (.agg (vQ l)) (.int .i64 1)).run Try.prog w = .ok (.int .i64 (mCnt l 1 : Nat)) w := fun _ => by kernel_rfl
  have i2 : ∀ w, (Instr.index 161 (.agg (vQ l)) (.int .i64 2)).run Try.prog w = .ok (.int .i64 (mCnt l 2 : Nat)) w := fun _ => by kernel_rfl
  have i3 : ∀ w, (Instr.index 161 (.agg (vQ l)) (.int .i64 3)).run Try.prog w = .ok (.int .i64 (mCnt l 3 : Nat)) w := fun _ => by kernel_rfl
  have i4 : ∀ w, (Instr.index 161 (.agg (vQ l)) (.int .i64 4)).run Try.prog w = .ok (.int .i64 (mCnt l 4 : Nat)) w := fun _ => by kernel_rfl
  have i5 : ∀ w, (Instr.index 161 (.agg (vQ l)) (.int .i64 5)).run Try.prog w = .ok (.int .i64 (mCnt l 5 : Nat)) w := fun _ => by kernel_rfl
  have HR := Lib.hid hr
  clear hr
  have HM := Lib.hid (show mFair l = (l.all mIsRule && decide (n ≤ 20) && (decide (mCnt l 1 ≤ 6) && decide (mCnt l 2 ≤ 6) && decide (mCnt l 3 ≤ 6) && decide (mCnt l 4 ≤ 6) && decide (mCnt l 5 ≤ 6))) by unfold mFair; rw [HL]; simp only [Bool.and_assoc])
  rw [HM.out]
  clear HM HL
  generalize mCnt l 1 = c1 at i1 ⊢
  generalize mCnt l 2 = c2 at i2 ⊢
  generalize mCnt l 3 = c3 at i3 ⊢
  generalize mCnt l 4 = c4 at i4 ⊢
  generalize mCnt l 5 = c5 at i5 ⊢
  generalize l.all mIsRule = b0 at CA ⊢
  replace CA := Lib.hid CA
  by_cases hn20 : n ≤ 20
  · have g0 : decide ((20 : Int) < (n : Nat)) = false := by simp; omega
    cases b0
    · have HE := Lib.hid (show (false && decide (n ≤ 20)) = false from rfl)
      go_enter Try.func50, Try.ntmps50
      go_wp2_with (first | (go_at_call 136; refine Calls.mono (CA.out _ HR.out) ?_; rintro e w1 ⟨rfl, hb1⟩; (have HB1 := Lib.hid hb1); clear hb1) | (go_at_call 137; refine Calls.mono (C0.out _ (HR.out.new HB1.out)) ?_; rintro e w2 ⟨rfl, hb1⟩; (have HB2 := Lib.hid (below_trans HB1.out hb1 (Nat.le_refl _))); clear hb1))
      go_ret
      exact ⟨by rw [HE.out]; rfl, HB1.out⟩
    · have HE := Lib.hid (show (true && decide (n ≤ 20)) = true by simp [hn20])
      by_cases h1 : c1 ≤ 6
      · have g1 : decide ((6 : Int) < (c1 : Nat)) = false := by simp; omega
        by_cases h2 : c2 ≤ 6
        · have g2 : decide ((6 : Int) < (c2 : Nat)) = false := by simp; omega
          by_cases h3 : c3 ≤ 6
          · have g3 : decide ((6 : Int) < (c3 : Nat)) = false := by simp; omega
            by_cases h4 : c4 ≤ 6
            · have g4 : decide ((6 : Int) < (c4 : Nat)) = false := by simp; omega
              by_cases h5 : c5 ≤ 6
              · have g5 : decide ((6 : Int) < (c5 : Nat)) = false := by simp; omega
                have HV := Lib.hid (show (decide (c1 ≤ 6) && decide (c2 ≤ 6) && decide (c3 ≤ 6) && decide (c4 ≤ 6) && decide (c5 ≤ 6)) = true by simp; omega)
                go_enter Try.func50, Try.ntmps50
                go_wp2_with (first | (go_at_call 136; refine Calls.mono (CA.out _ HR.out) ?_; rintro e w1 ⟨rfl, hb1⟩; (have HB1 := Lib.hid hb1); clear hb1) | (go_at_call 137; refine Calls.mono (C0.out _ (HR.out.new HB1.out)) ?_; rintro e w2 ⟨rfl, hb1⟩; (have HB2 := Lib.hid (below_trans HB1.out hb1 (Nat.le_refl _))); clear hb1))
                go_rounds 7
                go_ret
                exact ⟨by rw [HE.out, HV.out]; rfl, HB2.out⟩
              · skip
                have g5 : decide ((6 : Int) < (c5 : Nat)) = true := by simp; omega
                have HV := Lib.hid (show (decide (c1 ≤ 6) && decide (c2 ≤ 6) && decide (c3 ≤ 6) && decide (c4 ≤ 6) && decide (c5 ≤ 6)) = false by simp; omega)
                go_enter Try.func50, Try.ntmps50
                go_wp2_with (first | (go_at_call 136; refine Calls.mono (CA.out _ HR.out) ?_; rintro e w1 ⟨rfl, hb1⟩; (have HB1 := Lib.hid hb1); clear hb1) | (go_at_call 137; refine Calls.mono (C0.out _ (HR.out.new HB1.out)) ?_; rintro e w2 ⟨rfl, hb1⟩; (have HB2 := Lib.hid (below_trans HB1.out hb1 (Nat.le_refl _))); clear hb1))
                go_rounds 6
                go_ret
                exact ⟨by rw [HE.out, HV.out]; rfl, HB2.out⟩
            · skip
              have g4 : decide ((6 : Int) < (c4 : Nat)) = true := by simp; omega
              have HV := Lib.hid (show (decide (c1 ≤ 6) && decide (c2 ≤ 6) && decide (c3 ≤ 6) && decide (c4 ≤ 6) && decide (c5 ≤ 6)) = false by simp; omega)
              go_enter Try.func50, Try.ntmps50
              go_wp2_with (first | (go_at_call 136; refine Calls.mono (CA.out _ HR.out) ?_; rintro e w1 ⟨rfl, hb1⟩; (have HB1 := Lib.hid hb1); clear hb1) | (go_at_call 137; refine Calls.mono (C0.out _ (HR.out.new HB1.out)) ?_; rintro e w2 ⟨rfl, hb1⟩; (have HB2 := Lib.hid (below_trans HB1.out hb1 (Nat.le_refl _))); clear hb1))
              go_rounds 5
              go_ret
              exact ⟨by rw [HE.out, HV.out]; rfl, HB2.out⟩
          · skip
            have g3 : decide ((6 : Int) < (c3 : Nat)) = true := by simp; omega
            have HV := Lib.hid (show (decide (c1 ≤ 6) && decide (c2 ≤ 6) && decide (c3 ≤ 6) && decide (c4 ≤ 6) && decide (c5 ≤ 6)) = false by simp; omega)
            go_enter Try.func50, Try.ntmps50
            go_wp2_with (first | (go_at_call 136; refine Calls.mono (CA.out _ HR.out) ?_; rintro e w1 ⟨rfl, hb1⟩; (have HB1 := Lib.hid hb1); clear hb1) | (go_at_call 137; refine Calls.mono (C0.out _ (HR.out.new HB1.out)) ?_; rintro e w2 ⟨rfl, hb1⟩; (have HB2 := Lib.hid (below_trans HB1.out hb1 (Nat.le_refl _))); clear hb1))
            go_rounds 4
            go_ret
            exact ⟨by rw [HE.out, HV.out]; rfl, HB2.out⟩
        · skip
          have g2 : decide ((6 : Int) < (c2 : Nat)) = true := by simp; omega
          have HV := Lib.hid (show (decide (c1 ≤ 6) && decide (c2 ≤ 6) && decide (c3 ≤ 6) && decide (c4 ≤ 6) && decide (c5 ≤ 6)) = false by simp; omega)
          go_enter Try.func50, Try.ntmps50
          go_wp2_with (first | (go_at_call 136; refine Calls.mono (CA.out _ HR.out) ?_; rintro e w1 ⟨rfl, hb1⟩; (have HB1 := Lib.hid hb1); clear hb1) | (go_at_call 137; refine Calls.mono (C0.out _ (HR.out.new HB1.out)) ?_; rintro e w2 ⟨rfl, hb1⟩; (have HB2 := Lib.hid (below_trans HB1.out hb1 (Nat.le_refl _))); clear hb1))
          go_rounds 3
          go_ret
          exact ⟨by rw [HE.out, HV.out]; rfl, HB2.out⟩
      · skip
        have g1 : decide ((6 : Int) < (c1 : Nat)) = true := by simp; omega
        have HV := Lib.hid (show (decide (c1 ≤ 6) && decide (c2 ≤ 6) && decide (c3 ≤ 6) && decide (c4 ≤ 6) && decide (c5 ≤ 6)) = false by simp; omega)
        go_enter Try.func50, Try.ntmps50
        go_wp2_with (first | (go_at_call 136; refine Calls.mono (CA.out _ HR.out) ?_; rintro e w1 ⟨rfl, hb1⟩; (have HB1 := Lib.hid hb1); clear hb1) | (go_at_call 137; refine Calls.mono (C0.out _ (HR.out.new HB1.out)) ?_; rintro e w2 ⟨rfl, hb1⟩; (have HB2 := Lib.hid (below_trans HB1.out hb1 (Nat.le_refl _))); clear hb1))
        go_rounds 2
        go_ret
        exact ⟨by rw [HE.out, HV.out]; rfl, HB2.out⟩
  · have g0 : decide ((20 : Int) < (n : Nat)) = true := by simp; omega
    have HE := Lib.hid (show (b0 && decide (n ≤ 20)) = false by simp [hn20])
    go_enter Try.func50, Try.ntmps50
    go_wp2_with fail
    go_ret
    exact ⟨by rw [HE.out]; rfl, Below.refl _ _⟩

end Go.Proofs.Ytlnmgfbfpjfddaa
