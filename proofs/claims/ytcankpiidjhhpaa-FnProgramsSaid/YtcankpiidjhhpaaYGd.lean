/- TSent, McM, TFlow, Flow, CgM, RnM, what is needed of it. -/
import Derived.Test.YtcankpiidjhhpaaYGb
import Derived.StillTailTactics
import Derived.Test.YtcankpiidjhhpaaYCV
import Derived.Test.YtcankpiidjhhpaaYGc
import Derived.Test.YtcankpiidjhhpaaYAreOps2
import Derived.Test.YtcankpiidjhhpaaYGa
namespace Go.Proofs.Ytcankpiidjhhpaa
open Go Go.ChangeShapes Go.WideShapes Go.ChangeAt Go.RowKit Go.Lib
set_option linter.unusedVariables false
set_option linter.unusedSimpArgs false
set_option maxRecDepth 100000

structure TSent where
 f0 : Int
 f1 : Int
 f2 : Int
deriving DecidableEq
def TSent.cells (x : TSent) : List Value := [.int .i64 x.f0, .int .i64 x.f1, .int .i64 x.f2]
abbrev cSent (d : List TSent) : List Value := d.flatMap TSent.cells
theorem TSent.len (x : TSent) : x.cells.length = 3 := rfl
def TSent.fit (x : TSent) : Prop := (-9223372036854775808 ≤ x.f0 ∧ x.f0 ≤ 9223372036854775807) ∧ (-9223372036854775808 ≤ x.f1 ∧ x.f1 ≤ 9223372036854775807) ∧ (-9223372036854775808 ≤ x.f2 ∧ x.f2 ≤ 9223372036854775807)
def cSentOk (d : List TSent) : Prop := ∀ x ∈ d, TSent.fit x
/-- The marks of one element, from k on. -/
def TSent.mark (k : Nat) : TSent := ⟨((k + 0 : Nat) : Int), ((k + 1 : Nat) : Int), ((k + 2 : Nat) : Int)⟩
def TSent.marks (k n : Nat) : List TSent := (List.range n).map fun i => TSent.mark (k + i * 3)


theorem equalIn_Sent (x y : TSent) (d : Nat) (w : World) :
  (Op.equalIn (d + 2) 47 (.agg #[.int .i64 x.f0, .int .i64 x.f1, .int .i64 x.f2]) (.agg #[.int .i64 y.f0, .int .i64 y.f1, .int .i64 y.f2])).run Try.prog w = .ok (decide (x = y)) w := by
 rw [run_equalIn_agg w (d + 1) 47 _ _ (by kernel_rfl) (by kernel_rfl)]
 simp only [Program.fieldsOf, Try.underlying47]
 rw [eqf_int (by decide) rfl rfl rfl, eqf_int (by decide) rfl rfl rfl, eqf_int (by decide) rfl rfl rfl]
 simp only [Op.eqFields, Sem.run_pure]
 have he : decide (x = y) = (x.f0 == y.f0 && (x.f1 == y.f1 && (x.f2 == y.f2))) := by
  cases x; cases y
  simp
  rw [Bool.eq_iff_iff]; simp
 rw [he]
 cases x.f0 == y.f0 <;> cases x.f1 == y.f1 <;> cases x.f2 == y.f2 <;> rfl
theorem neq_Sent (x y : TSent) (w : World) : (binOp .neq 47 (.agg #[.int .i64 x.f0, .int .i64 x.f1, .int .i64 x.f2]) (.agg #[.int .i64 y.f0, .int .i64 y.f1, .int .i64 y.f2])).run Try.prog w = .ok (.bool (!decide (x = y))) w := by
 rw [run_neq_struct, equalIn_Sent x y 9998 w]; rfl
end Go.Proofs.Ytcankpiidjhhpaa
namespace Go.Proofs.Ytcankpiidjhhpaa
open Go Go.ChangeShapes Go.WideShapes Go.ChangeAt Go.RowKit Go.Lib
set_option linter.unusedVariables false
set_option linter.unusedSimpArgs false
set_option maxRecDepth 100000
theorem lab_nat {x : Int} (h : mIsLabel x = true) : ∃ a : Nat, x = (a : Int) ∧ a < 1024 ∧ a % 2 = 0 ∧ a ≤ 1022 := by
 simp only [mIsLabel, Bool.and_eq_true, beq_iff_eq] at h
 have b1 := inR_true.1 h.1
 obtain ⟨a, rfl⟩ := Int.eq_ofNat_of_zero_le b1.1
 exact ⟨a, rfl, by omega, by omega, by omega⟩
theorem nat_lab {a : Nat} (h : a ≤ 1022) (h2 : a % 2 = 0) : mIsLabel (a : Int) = true := by
 simp only [mIsLabel, Bool.and_eq_true, beq_iff_eq]
 exact ⟨inR_true.2 ⟨by omega, by omega⟩, by omega⟩
theorem or_even {a b : Nat} (ha : a < 1024) (hb : b < 1024) (ea : a % 2 = 0) (eb : b % 2 = 0) : (a ||| b) < 1024 ∧ (a ||| b) % 2 = 0 ∧ (a ||| b) ≤ 1022 := by
 have hab : a ||| b < 1024 := Nat.or_lt_two_pow (n := 10) ha hb
 have hev : (a ||| b) % 2 = 0 := by
  have h0 : (a ||| b).testBit 0 = false := by
   rw [Nat.testBit_or, Nat.testBit_zero, Nat.testBit_zero]
   simp [*]
  rw [Nat.testBit_zero] at h0
  have : ¬ ((a ||| b) % 2 = 1) := by simpa using h0
  omega
 exact ⟨hab, hev, by omega⟩
theorem join_nat {a b : Nat} (ha : mIsLabel (a : Int) = true) (hb : mIsLabel (b : Int) = true) (h1 : a < 1024) (h2 : b < 1024) : mJoin (a : Int) (b : Int) = ((a ||| b : Nat) : Int) := by
 unfold mJoin
 rw [ha, hb, or_nat a b h1 h2]
 rfl
theorem join_lab {x y : Int} (hx : mIsLabel x = true) (hy : mIsLabel y = true) : mIsLabel (mJoin x y) = true := by
 obtain ⟨a, rfl, a1, a2, a3⟩ := lab_nat hx
 obtain ⟨b, rfl, b1, b2, b3⟩ := lab_nat hy
 rw [join_nat hx hy a1 b1]
 obtain ⟨c1, c2, c3⟩ := or_even a1 b1 a2 b2
 exact nat_lab c3 c2
theorem labS_lab (l : List Int) : mIsLabel ((mLabS l 9 : Nat) : Int) = true := by
 have h1 := mLabS_le l 9
 have h2 : ∀ k, mLabS l k % 2 = 0 := by
  intro k
  induction k with
  | zero => rfl
  | succ k ih =>
   simp only [mLabS]
   have : 2 ^ (k + 1) = 2 * 2 ^ k := by rw [Nat.pow_succ, Nat.mul_comm]
   split <;> omega
 exact nat_lab (by omega) (h2 9)
theorem lab_wf {x : Int} (h : mIsLabel x = true) : (Lit.int .i64 x).wf = true := by
 obtain ⟨a, rfl, a1, _, _⟩ := lab_nat h
 exact WalkArith.wf_i64 (by omega)
/-- A register's number. -/
def gI (l : List Int) (k : Int) : Int := l.getD k.toNat 0
def mStV (o : TOp) (vals v : List Int) : List Int :=
 if o.f0 = 1 then v.set o.f1.toNat (mVal vals (o.f2.toNat - 1))
 else if o.f0 = 2 then v.set o.f1.toNat o.f2
 else if o.f0 = 3 then v.set o.f1.toNat ((gI v o.f2 + gI v o.f3) % 1000)
 else if o.f0 = 4 then v.set o.f1.toNat (if gI v o.f2 % 2 = 0 then gI v o.f3 else gI v o.f1)
 else v
def mStB (o : TOp) (b : List Int) : List Int :=
 if o.f0 = 1 then b.set o.f1.toNat ((mLabS [o.f2] 9 : Nat) : Int)
 else if o.f0 = 2 then b.set o.f1.toNat 0
 else if o.f0 = 3 then b.set o.f1.toNat (mJoin (gI b o.f2) (gI b o.f3))
 else if o.f0 = 4 then b.set o.f1.toNat (mJoin (mJoin (gI b o.f1) (gI b o.f2)) (gI b o.f3))
 else b
def mSd (o : TOp) (v b : List Int) : List TSent := if o.f0 = 5 then [⟨o.f2, gI v o.f1, gI b o.f1⟩] else []
/-- The registers' values and labels, and what was sent. -/
structure MMc where
 v : List Int
 b : List Int
 s : List TSent
def MMc.ok (x : MMc) : Prop := (x.v.length = 6 ∧ ∀ z ∈ x.v, 0 ≤ z ∧ z ≤ 999) ∧ (x.b.length = 6 ∧ ∀ z ∈ x.b, mIsLabel z = true)
def mStep (vals : List Int) (x : MMc) (o : TOp) : MMc := ⟨mStV o vals x.v, mStB o x.b, x.s ++ mSd o x.v x.b⟩
def mMc0 : MMc := ⟨List.replicate 6 0, List.replicate 6 0, []⟩
def mMc (vals : List Int) (l : List TOp) : MMc := l.foldl (mStep vals) mMc0
theorem mMc_take {vals : List Int} {l : List TOp} {k : Nat} {o : TOp} (h : l[k]? = some o) : mMc vals (l.take (k + 1)) = mStep vals (mMc vals (l.take k)) o := by
 rw [List.take_add_one, h]
 simp [mMc]
theorem gI_in {l : List Int} {k : Int} {P : Int → Prop} (h : l.length = 6 ∧ ∀ z ∈ l, P z) (hk : mReg k = true) : P (gI l k) := by
 have b := inR_true.1 hk
 have hlt : k.toNat < l.length := by omega
 unfold gI
 rw [List.getD_eq_getElem?_getD, List.getElem?_eq_getElem hlt]
 exact h.2 _ (List.getElem_mem hlt)
theorem set_all {l : List Int} {k : Nat} {z : Int} {P : Int → Prop} (h : l.length = 6 ∧ ∀ z ∈ l, P z) (hz : P z) : (l.set k z).length = 6 ∧ ∀ y ∈ l.set k z, P y :=
 ⟨by rw [List.length_set]; exact h.1, fun y hy => by
  rcases List.mem_or_eq_of_mem_set hy with h1 | rfl
  ·
   exact h.2 y h1
  ·
   exact hz⟩
theorem mVal_in (l : List Int) (k : Nat) : 0 ≤ mVal l k ∧ mVal l k ≤ 999 := by
 unfold mVal
 split
 ·
  split
  ·
   rename_i h
   exact inR_true.1 h
  ·
   omega
 ·
  omega
theorem mOp_12 {o : TOp} (h : mOp o = true) (hk : o.f0 = 1 ∨ o.f0 = 5) : mReg o.f1 = true ∧ 1 ≤ o.f2 ∧ o.f2 ≤ 9 := by
 unfold mOp at h
 rw [if_pos hk] at h
 simp only [mOp3, Bool.and_eq_true] at h
 have := inR_true.1 h.1.2
 exact ⟨h.1.1, by omega, by omega⟩
theorem mOp_2 {o : TOp} (h : mOp o = true) (hk : o.f0 = 2) : mReg o.f1 = true ∧ 0 ≤ o.f2 ∧ o.f2 ≤ 999 := by
 unfold mOp at h
 rw [if_neg (by omega), if_pos hk] at h
 simp only [mOp3, Bool.and_eq_true] at h
 have := inR_true.1 h.1.2
 exact ⟨h.1.1, by omega, by omega⟩
theorem mOp_34 {o : TOp} (h : mOp o = true) (hk : o.f0 = 3 ∨ o.f0 = 4) : mReg o.f1 = true ∧ mReg o.f2 = true ∧ mReg o.f3 = true := by
 unfold mOp at h
 rw [if_neg (by omega), if_neg (by omega), if_pos hk] at h
 simp only [Bool.and_eq_true] at h
 exact ⟨h.1.1, h.1.2, h.2⟩
theorem mOp_k {o : TOp} (h : mOp o = true) : o.f0 = 1 ∨ o.f0 = 2 ∨ o.f0 = 3 ∨ o.f0 = 4 ∨ o.f0 = 5 := by
 unfold mOp at h
 split at h
 ·
  omega
 ·
  split at h
  ·
   omega
  ·
   split at h
   ·
    omega
   ·
    cases h
theorem mReg_n {k : Int} (h : mReg k = true) : ∃ n : Nat, k = (n : Int) ∧ n < 6 := by
 have b := inR_true.1 h
 obtain ⟨a, rfl⟩ := Int.eq_ofNat_of_zero_le b.1
 exact ⟨a, rfl, by omega⟩
theorem mStep_ok {vals : List Int} {x : MMc} {o : TOp} (h : x.ok) (ho : mOp o = true) : (mStep vals x o).ok := by
 obtain ⟨hv, hb⟩ := h
 have hz : mIsLabel 0 = true := by decide
 refine ⟨?_, ?_⟩
 ·
  show (mStV o vals x.v).length = 6 ∧ ∀ z ∈ mStV o vals x.v, 0 ≤ z ∧ z ≤ 999
  unfold mStV
  split
  ·
   exact set_all hv (mVal_in _ _)
  ·
   split
   ·
    rename_i h2
    exact set_all hv (mOp_2 ho h2).2
   ·
    split
    ·
     exact set_all hv ⟨by omega, by omega⟩
    ·
     split
     ·
      rename_i h4
      obtain ⟨h1, h2, h3⟩ := mOp_34 ho (.inr h4)
      refine set_all hv ?_
      split
      ·
       exact gI_in hv h3
      ·
       exact gI_in hv h1
     ·
      exact hv
 ·
  show (mStB o x.b).length = 6 ∧ ∀ z ∈ mStB o x.b, mIsLabel z = true
  unfold mStB
  split
  ·
   exact set_all hb (labS_lab _)
  ·
   split
   ·
    exact set_all hb hz
   ·
    split
    ·
     rename_i h3
     obtain ⟨h1, h2, h3⟩ := mOp_34 ho (.inl h3)
     exact set_all hb (join_lab (gI_in hb h2) (gI_in hb h3))
    ·
     split
     ·
      rename_i h4
      obtain ⟨h1, h2, h3⟩ := mOp_34 ho (.inr h4)
      exact set_all hb (join_lab (join_lab (gI_in hb h1) (gI_in hb h2)) (gI_in hb h3))
     ·
      exact hb
theorem mMc_ok {vals : List Int} {l : List TOp} (h : l.all mOp = true) (k : Nat) : (mMc vals (l.take k)).ok := by
 have h0 : mMc0.ok := by
  have hz : mIsLabel 0 = true := by decide
  exact ⟨⟨by simp [mMc0], fun z hh => by rw [List.eq_of_mem_replicate hh]; omega⟩, ⟨by simp [mMc0], fun z hh => by rw [List.eq_of_mem_replicate hh]; exact hz⟩⟩
 have : ∀ (l : List TOp) (x : MMc), x.ok → l.all mOp = true → (l.foldl (mStep vals) x).ok := by
  intro l
  induction l with
  | nil => intro x hx _; exact hx
  | cons o l ih =>
   intro x hx hl
   rw [List.all_cons, Bool.and_eq_true] at hl
   exact ih _ (mStep_ok hx hl.1) hl.2
 refine this _ _ h0 ?_
 rw [List.all_eq_true] at h ⊢
 exact fun x hx => h x (List.mem_of_mem_take hx)
theorem mSent_le {vals : List Int} : ∀ (l : List TOp), (mMc vals l).s.length ≤ l.length := by
 have : ∀ (l : List TOp) (x : MMc), (l.foldl (mStep vals) x).s.length ≤ x.s.length + l.length := by
  intro l
  induction l with
  | nil => intro x; simp
  | cons o l ih =>
   intro x
   refine Nat.le_trans (ih _) ?_
   have : (mSd o x.v x.b).length ≤ 1 := by unfold mSd; split <;> simp
   simp only [mStep, List.length_append, List.length_cons]
   omega
 intro l
 have h := this l mMc0
 simpa [mMc, mMc0] using h
/-- The registers' labels when a program has run. -/
def mLAft (l : List TOp) : List Int := if mAreOps l then (mMc [] l).b else []
end Go.Proofs.Ytcankpiidjhhpaa
namespace Go.Proofs.Ytcankpiidjhhpaa
open Go Go.ChangeShapes Go.WideShapes Go.ChangeAt Go.RowKit Go.Lib
set_option linter.unusedVariables false
set_option linter.unusedSimpArgs false
set_option maxRecDepth 100000

structure TFlow where
 f0 : Int
 f1 : Int
 f2 : Int
deriving DecidableEq
def TFlow.cells (x : TFlow) : List Value := [.int .i64 x.f0, .int .i64 x.f1, .int .i64 x.f2]
abbrev cFlow (d : List TFlow) : List Value := d.flatMap TFlow.cells
theorem TFlow.len (x : TFlow) : x.cells.length = 3 := rfl
def TFlow.fit (x : TFlow) : Prop := (-9223372036854775808 ≤ x.f0 ∧ x.f0 ≤ 9223372036854775807) ∧ (-9223372036854775808 ≤ x.f1 ∧ x.f1 ≤ 9223372036854775807) ∧ (-9223372036854775808 ≤ x.f2 ∧ x.f2 ≤ 9223372036854775807)
def cFlowOk (d : List TFlow) : Prop := ∀ x ∈ d, TFlow.fit x
/-- The marks of one element, from k on. -/
def TFlow.mark (k : Nat) : TFlow := ⟨((k + 0 : Nat) : Int), ((k + 1 : Nat) : Int), ((k + 2 : Nat) : Int)⟩
def TFlow.marks (k n : Nat) : List TFlow := (List.range n).map fun i => TFlow.mark (k + i * 3)


theorem equalIn_Flow (x y : TFlow) (d : Nat) (w : World) :
  (Op.equalIn (d + 2) 87 (.agg #[.int .i64 x.f0, .int .i64 x.f1, .int .i64 x.f2]) (.agg #[.int .i64 y.f0, .int .i64 y.f1, .int .i64 y.f2])).run Try.prog w = .ok (decide (x = y)) w := by
 rw [run_equalIn_agg w (d + 1) 87 _ _ (by kernel_rfl) (by kernel_rfl)]
 simp only [Program.fieldsOf, Try.underlying87]
 rw [eqf_int (by decide) rfl rfl rfl, eqf_int (by decide) rfl rfl rfl, eqf_int (by decide) rfl rfl rfl]
 simp only [Op.eqFields, Sem.run_pure]
 have he : decide (x = y) = (x.f0 == y.f0 && (x.f1 == y.f1 && (x.f2 == y.f2))) := by
  cases x; cases y
  simp
  rw [Bool.eq_iff_iff]; simp
 rw [he]
 cases x.f0 == y.f0 <;> cases x.f1 == y.f1 <;> cases x.f2 == y.f2 <;> rfl
theorem eql_Flow (x y : TFlow) (w : World) : (binOp .eql 87 (.agg #[.int .i64 x.f0, .int .i64 x.f1, .int .i64 x.f2]) (.agg #[.int .i64 y.f0, .int .i64 y.f1, .int .i64 y.f2])).run Try.prog w = .ok (.bool (decide (x = y))) w := by
 rw [run_eql_struct, equalIn_Flow x y 9998 w]; rfl

end Go.Proofs.Ytcankpiidjhhpaa
namespace Go.Proofs.Ytcankpiidjhhpaa
open Go Go.ChangeShapes Go.WideShapes Go.ChangeAt Go.RowKit Go.Lib
set_option linter.unusedVariables false
set_option linter.unusedSimpArgs false
set_option maxRecDepth 100000
abbrev vFlow (x : TFlow) : Value := .agg #[.int .i64 x.f0, .int .i64 x.f1, .int .i64 x.f2]
def mIsFlow (x : TFlow) : Bool := inR x.f0 1 5 && inR x.f1 1 9 && inR x.f2 1 9

set_option maxHeartbeats 40000000 in
theorem impl_IsFlow (x : TFlow) (w : World) :
  Calls Try.prog 68 #[vFlow x] w (Says (.bool (mIsFlow x)) w) := by
 by_cases h0 : (inR x.f0 1 5) = true
 ·
  by_cases h1 : (inR x.f1 1 9) = true
  ·
   by_cases h2 : (inR x.f2 1 9) = true
   ·
    have HE := Lib.hid (show mIsFlow x = true by simp [mIsFlow, h0, h1, h2])
    go_enter Try.func68, Try.ntmps68
    go_wp2_with (first | (go_at_call 59; refine (impl_in _ _ _ _).mono ?_; rintro e w1 ⟨rfl, rfl⟩))
    go_ret
    exact ⟨by rw [HE.out]; rfl, by repeat (first | with_reducible exact Below.refl _ _ | (with_reducible refine below_step ?_ (by assumption) (by first | omega | (simp <;> omega))) | (with_reducible refine Below.alloc ?_ (by first | omega | (simp <;> omega)) _) | (with_reducible refine Below.setCell ?_ (by first | omega | (simp <;> omega)) _) | (with_reducible refine Below.drew ?_) | (with_reducible refine below_dN ?_ _) | (refine Below.alloc ?_ (by first | omega | (simp <;> omega)) _))⟩
   ·
    have h2 : (inR x.f2 1 9) = false := by simpa using h2
    have HE := Lib.hid (show mIsFlow x = false by simp [mIsFlow, h0, h1, h2])
    go_enter Try.func68, Try.ntmps68
    go_wp2_with (first | (go_at_call 59; refine (impl_in _ _ _ _).mono ?_; rintro e w1 ⟨rfl, rfl⟩))
    go_ret
    exact ⟨by rw [HE.out]; rfl, by repeat (first | with_reducible exact Below.refl _ _ | (with_reducible refine below_step ?_ (by assumption) (by first | omega | (simp <;> omega))) | (with_reducible refine Below.alloc ?_ (by first | omega | (simp <;> omega)) _) | (with_reducible refine Below.setCell ?_ (by first | omega | (simp <;> omega)) _) | (with_reducible refine Below.drew ?_) | (with_reducible refine below_dN ?_ _) | (refine Below.alloc ?_ (by first | omega | (simp <;> omega)) _))⟩
  ·
   have h1 : (inR x.f1 1 9) = false := by simpa using h1
   have HE := Lib.hid (show mIsFlow x = false by simp [mIsFlow, h0, h1])
   go_enter Try.func68, Try.ntmps68
   go_wp2_with (first | (go_at_call 59; refine (impl_in _ _ _ _).mono ?_; rintro e w1 ⟨rfl, rfl⟩))
   go_ret
   exact ⟨by rw [HE.out]; rfl, by repeat (first | with_reducible exact Below.refl _ _ | (with_reducible refine below_step ?_ (by assumption) (by first | omega | (simp <;> omega))) | (with_reducible refine Below.alloc ?_ (by first | omega | (simp <;> omega)) _) | (with_reducible refine Below.setCell ?_ (by first | omega | (simp <;> omega)) _) | (with_reducible refine Below.drew ?_) | (with_reducible refine below_dN ?_ _) | (refine Below.alloc ?_ (by first | omega | (simp <;> omega)) _))⟩
 ·
  have h0 : (inR x.f0 1 5) = false := by simpa using h0
  have HE := Lib.hid (show mIsFlow x = false by simp [mIsFlow, h0])
  go_enter Try.func68, Try.ntmps68
  go_wp2_with (first | (go_at_call 59; refine (impl_in _ _ _ _).mono ?_; rintro e w1 ⟨rfl, rfl⟩))
  go_ret
  exact ⟨by rw [HE.out]; rfl, by repeat (first | with_reducible exact Below.refl _ _ | (with_reducible refine below_step ?_ (by assumption) (by first | omega | (simp <;> omega))) | (with_reducible refine Below.alloc ?_ (by first | omega | (simp <;> omega)) _) | (with_reducible refine Below.setCell ?_ (by first | omega | (simp <;> omega)) _) | (with_reducible refine Below.drew ?_) | (with_reducible refine below_dN ?_ _) | (refine Below.alloc ?_ (by first | omega | (simp <;> omega)) _))⟩
end Go.Proofs.Ytcankpiidjhhpaa
namespace Go.Proofs.Ytcankpiidjhhpaa
open Go Go.ChangeShapes Go.WideShapes Go.ChangeAt Go.RowKit Go.Lib
set_option linter.unusedVariables false
set_option linter.unusedSimpArgs false
set_option maxRecDepth 100000

/-- A grid of ten rows of ten, and a mask. -/
def cargoL (P : Nat → Nat → Bool) (b : Int) (v : Bool) : List Value := (List.range 100).map (fun i => Value.bool (P (i / 10) (i % 10))) ++ [.int .i64 b, .bool v]
def cargoC (P : Nat → Nat → Bool) (b : Int) (v : Bool) : Array Value := (cargoL P b v).toArray
theorem cargo_size (P : Nat → Nat → Bool) (b : Int) (v : Bool) : (cargoC P b v).size = 102 := by simp [cargoC, cargoL]
theorem cargo_get (P : Nat → Nat → Bool) (b : Int) (v : Bool) {x y : Nat} (hx : x < 10) (hy : y < 10) : (cargoC P b v)[x * 10 + y]? = some (.bool (P x y)) := by
  simp only [cargoC, cargoL, List.getElem?_toArray]
  rw [List.getElem?_append_left (by simp; omega), List.getElem?_map, List.getElem?_range (by omega)]
  have e1 : (x * 10 + y) / 10 = x := by omega
  have e2 : (x * 10 + y) % 10 = y := by omega
  simp [e1, e2]
theorem cargo_ones (P : Nat → Nat → Bool) (b : Int) (v : Bool) : (cargoC P b v).all (·.oneCell') = true := by
  simp [cargoC, cargoL, Value.oneCell']
theorem cargo_bits (P : Nat → Nat → Bool) (b : Int) (v : Bool) : (cargoC P b v)[100]? = some (.int .i64 b) ∧ (cargoC P b v)[101]? = some (.bool v) := by
  simp only [cargoC, cargoL, List.getElem?_toArray]
  exact ⟨by rw [List.getElem?_append_right (by simp)]; simp, by rw [List.getElem?_append_right (by simp)]; simp⟩
theorem cargo_set (P : Nat → Nat → Bool) (b : Int) (v : Bool) {x y : Nat} (hx : x < 10) (hy : y < 10) : (cargoC P b v).setIfInBounds (x * 10 + y) (.bool true) = cargoC (fun i j => P i j || (i == x && j == y)) b v := by
  apply Array.ext_getElem?
  intro i
  rw [Array.getElem?_setIfInBounds, cargo_size]
  by_cases h : x * 10 + y = i
  · subst h
    rw [if_pos rfl, if_pos (by omega), cargo_get _ _ _ hx hy]
    simp
  · rw [if_neg h]
    by_cases hi : i < 100
    · obtain ⟨a, c, ha, hc, rfl⟩ : ∃ a c, a < 10 ∧ c < 10 ∧ i = a * 10 + c := ⟨i / 10, i % 10, by omega, by omega, by omega⟩
      rw [cargo_get _ _ _ ha hc, cargo_get _ _ _ ha hc]
      have : (a == x && c == y) = false := by
        rw [Bool.eq_false_iff]
        intro h'
        simp only [Bool.and_eq_true, beq_iff_eq] at h'
        omega
      simp [this]
    · simp only [cargoC, cargoL, List.getElem?_toArray]
      rw [List.getElem?_append_right (by simp; omega), List.getElem?_append_right (by simp; omega)]
      simp
theorem cargo_ext {P Q : Nat → Nat → Bool} (b : Int) (v : Bool) (h : ∀ i j, i < 10 → j < 10 → P i j = Q i j) : cargoC P b v = cargoC Q b v := by
  unfold cargoC cargoL
  congr 2
  refine List.map_congr_left fun i hi => ?_
  rw [List.mem_range] at hi
  rw [h (i / 10) (i % 10) (by omega) (by omega)]
def diag (k : Nat) (i j : Nat) : Bool := i == j && decide (i < k)
def flowAt (e : Int) (i j : Nat) (f : TFlow) : Bool := mIsFlow f && f.f0 == e && f.f1 == (i : Int) && f.f2 == (j : Int)
/-- Values may go from i to j. -/
def opnG (l : List TFlow) (e : Int) (i j : Nat) : Bool := (i == j) || l.any (flowAt e i j)
theorem diag_step (k : Nat) (hk : k < 10) : cargoC (fun i j => diag k i j || (i == k && j == k)) = cargoC (diag (k + 1)) := by
  funext b v
  refine cargo_ext b v fun i j _ _ => ?_
  unfold diag
  rw [Bool.eq_iff_iff]
  simp only [Bool.or_eq_true, Bool.and_eq_true, beq_iff_eq, decide_eq_true_eq]
  omega
theorem diag_all (e : Int) : cargoC (diag 10) = cargoC (opnG [] e) := by
  funext b v
  refine cargo_ext b v fun i j hi _ => ?_
  unfold diag opnG
  simp [hi]
theorem opn_take {l : List TFlow} {k : Nat} {f : TFlow} (hz : l[k]? = some f) (e : Int) (i j : Nat) : opnG (l.take (k + 1)) e i j = (opnG (l.take k) e i j || flowAt e i j f) := by
  unfold opnG
  rw [List.take_add_one, hz, List.any_append]
  simp [Bool.or_assoc]
theorem opn_no {l : List TFlow} {k : Nat} {f : TFlow} {e : Int} (hz : l[k]? = some f) (h : (mIsFlow f && f.f0 == e) = false) : cargoC (opnG (l.take (k + 1)) e) = cargoC (opnG (l.take k) e) := by
  funext b v
  refine cargo_ext b v fun i j _ _ => ?_
  rw [opn_take hz]
  have : flowAt e i j f = false := by unfold flowAt; rw [h]; rfl
  rw [this, Bool.or_false]
theorem opn_yes {l : List TFlow} {k : Nat} {f : TFlow} {e : Int} {x y : Nat} (hz : l[k]? = some f) (h : (mIsFlow f && f.f0 == e) = true) (hx : f.f1 = (x : Int)) (hy : f.f2 = (y : Int)) : cargoC (fun i j => opnG (l.take k) e i j || (i == x && j == y)) = cargoC (opnG (l.take (k + 1)) e) := by
  funext b v
  refine cargo_ext b v fun i j _ _ => ?_
  rw [opn_take hz]
  have : flowAt e i j f = (i == x && j == y) := by
    unfold flowAt
    rw [h, hx, hy, Bool.true_and, Bool.eq_iff_iff]
    simp only [Bool.and_eq_true, beq_iff_eq]
    omega
  rw [this]
theorem flow_bd {f : TFlow} (h : mIsFlow f = true) : ∃ x y : Nat, f.f1 = (x : Int) ∧ f.f2 = (y : Int) ∧ x < 10 ∧ y < 10 := by
  simp only [mIsFlow, Bool.and_eq_true, inR_true] at h
  exact ⟨f.f1.toNat, f.f2.toNat, by omega, by omega, by omega, by omega⟩
/-- A grid with a mask lets its value go there. -/
def goes (P : Nat → Nat → Bool) (b : Int) (v : Bool) (to : Int) : Bool := v && inR to 1 9 && (List.range 10).all fun k => !(decide (1 ≤ k) && mHas b k) || P k to.toNat
def mMayF (l : List TFlow) (e x t : Int) : Bool := mIsLabel x && inR t 1 9 && (mOwn x).all fun o => o == t || (mIsFlow ⟨e, o, t⟩ && l.any fun f => decide ((⟨e, o, t⟩ : TFlow) = f))
theorem goes_may (l : List TFlow) (e x t : Int) : goes (opnG l e) (if mIsLabel x then x else 0) (mIsLabel x) t = mMayF l e x t := by
  unfold goes mMayF
  cases hx : mIsLabel x with
  | false => rfl
  | true =>
    rw [if_pos rfl, Bool.true_and]
    cases ht : inR t 1 9 with
    | false => rfl
    | true =>
      rw [Bool.true_and, Bool.true_and]
      have ht2 := inR_true.1 ht
      rw [Bool.eq_iff_iff, List.all_eq_true, List.all_eq_true]
      have key : ∀ k : Nat, 1 ≤ k → k ≤ 9 → opnG l e k t.toNat = ((k : Int) == t || (mIsFlow ⟨e, (k : Int), t⟩ && l.any fun f => decide ((⟨e, (k : Int), t⟩ : TFlow) = f))) := by
        intro k h1 h9
        unfold opnG
        rw [Bool.eq_iff_iff]
        simp only [Bool.or_eq_true, Bool.and_eq_true, beq_iff_eq, List.any_eq_true, decide_eq_true_eq]
        constructor
        · rintro (h | ⟨f, hf, hh⟩)
          · left; omega
          · right
            unfold flowAt at hh
            simp only [Bool.and_eq_true, beq_iff_eq] at hh
            have hE : (⟨e, (k : Int), t⟩ : TFlow) = f := by
              obtain ⟨f0, f1, f2⟩ := f
              simp only at hh
              simp only [TFlow.mk.injEq]
              omega
            exact ⟨by rw [hE]; exact hh.1.1.1, f, hf, hE⟩
        · rintro (h | ⟨hF, f, hf, hE⟩)
          · left; omega
          · right
            refine ⟨f, hf, ?_⟩
            unfold flowAt
            rw [← hE, hF]
            simp only [Bool.and_eq_true, beq_iff_eq, true_and]
            omega
      constructor
      · intro H o ho
        unfold mOwn at ho
        obtain ⟨ho1, ho2⟩ := List.mem_filter.1 ho
        obtain ⟨k, hk, rfl⟩ := rangeI_mem ho1
        have H1 := H (k + 1) (List.mem_range.2 (by omega))
        have e1 : (1 + (k : Int)) = ((k + 1 : Nat) : Int) := by omega
        rw [e1] at ho2 ⊢
        rw [hx, Bool.true_and, Int.toNat_natCast] at ho2
        rw [ho2, key (k + 1) (by omega) (by omega)] at H1
        simpa using H1
      · intro H k hk
        rw [List.mem_range] at hk
        by_cases h1 : 1 ≤ k
        · cases hh : mHas x k with
          | false => simp
          | true =>
            have ho : ((k : Nat) : Int) ∈ mOwn x := by
              unfold mOwn
              refine List.mem_filter.2 ⟨?_, by rw [hx, Int.toNat_natCast, hh]; rfl⟩
              simp only [rangeI, List.mem_map, List.mem_range]
              exact ⟨k - 1, by omega, by omega⟩
            have := H _ ho
            rw [← key k h1 (by omega)] at this
            rw [this]; simp
        · have : decide (1 ≤ k) = false := decide_eq_false h1
          rw [this]; rfl
end Go.Proofs.Ytcankpiidjhhpaa
namespace Go.Proofs.Ytcankpiidjhhpaa
open Go Go.ChangeShapes Go.WideShapes Go.ChangeAt Go.RowKit Go.Lib
set_option linter.unusedVariables false
set_option linter.unusedSimpArgs false
set_option maxRecDepth 100000

def mayS (flows : List TFlow) (e : Int) (s : TSent) : Bool := mMayF flows e s.f2 s.f0
def mRnF (flows : List TFlow) (e : Int) (s : List TSent) : List TSent := s.filter (mayS flows e)
def mRunO (l : List TOp) (values : List Int) (flows : List TFlow) (e : Int) : List TSent := if mAreOps l then mRnF flows e (mMc values l).s else []
theorem mRnF_snoc (flows : List TFlow) (e : Int) (s : List TSent) (x : TSent) : mRnF flows e (s ++ [x]) = if mayS flows e x = true then mRnF flows e s ++ [x] else mRnF flows e s := by
  unfold mRnF
  rw [List.filter_append]
  by_cases h : mayS flows e x = true
  · rw [if_pos h]; simp [h]
  · rw [if_neg h]; simp [h]
theorem mRnF_len (flows : List TFlow) (e : Int) (s : List TSent) : (mRnF flows e s).length ≤ s.length := List.length_filter_le _ _
theorem mcs_len (vals : List Int) : ∀ (l : List TOp), (mMc vals l).s.length ≤ l.length := by
  have key : ∀ (l : List TOp) (x : MMc), (l.foldl (mStep vals) x).s.length ≤ x.s.length + l.length := by
    intro l
    induction l with
    | nil => intro x; simp
    | cons o l ih =>
      intro x
      refine Nat.le_trans (ih _) ?_
      have : (mStep vals x o).s.length ≤ x.s.length + 1 := by
        simp only [mStep, List.length_append]
        unfold mSd
        split <;> simp
      simp only [List.length_cons]
      omega
  intro l
  have := key l mMc0
  simpa [mMc, mMc0] using this
theorem mRunO_len (l : List TOp) (values : List Int) (flows : List TFlow) (e : Int) : (mRunO l values flows e).length ≤ 16 := by
  unfold mRunO
  split
  · rename_i h
    simp only [mAreOps, Bool.and_eq_true, decide_eq_true_eq] at h
    have h1 := mRnF_len flows e (mMc values l).s
    have h2 := mcs_len values l
    omega
  · simp
end Go.Proofs.Ytcankpiidjhhpaa
