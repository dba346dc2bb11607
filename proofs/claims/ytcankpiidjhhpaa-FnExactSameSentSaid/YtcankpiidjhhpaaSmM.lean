/- Two lists of what was sent are the same but for the values that depend on an owner. Lists alone. -/
import Derived.Test.YtcankpiidjhhpaaOwn2
import Derived.Test.YtcankpiidjhhpaaEqSSent
namespace Go.Proofs.Ytcankpiidjhhpaa
open Go Go.ChangeShapes Go.WideShapes Go.ChangeAt Go.RowKit Go.Lib
set_option linter.unusedVariables false
set_option linter.unusedSimpArgs false
set_option maxRecDepth 100000
def mMk (o x : Int) : Bool := decide (o ∈ mOwn x)
def fgt (o : Int) (s : TSent) : TSent := if mMk o s.f2 = true then ⟨s.f0, 0, s.f2⟩ else s
def okS (o : Int) (x y : TSent) : Bool := x.f0 == y.f0 && x.f2 == y.f2 && (x.f1 == y.f1 || mMk o x.f2)
def mSame (o : Int) : List TSent → List TSent → Bool
  | [], [] => true
  | x :: a, y :: b => okS o x y && mSame o a b
  | _, _ => false
theorem fgt_eq (o : Int) (x y : TSent) : decide (fgt o x = fgt o y) = okS o x y := by
  obtain ⟨a, b, c⟩ := x
  obtain ⟨d, e, f⟩ := y
  unfold fgt okS
  simp only
  by_cases h : c = f
  · subst h
    cases hm : mMk o c with
    | true => simp; try rfl
    | false => simp [Bool.and_comm]; try (rw [Bool.eq_iff_iff]; simp)
  · have : (c == f) = false := by simp [h]
    rw [this]
    simp only [Bool.and_false, Bool.false_and]
    rw [decide_eq_false_iff_not]
    intro e'
    split at e' <;> split at e' <;> (injection e' with _ _ h3; exact h h3)
theorem mSame_eq (o : Int) : ∀ a b : List TSent, decide (a.map (fgt o) = b.map (fgt o)) = mSame o a b := by
  intro a
  induction a with
  | nil => intro b; cases b <;> simp [mSame]
  | cons x a ih =>
    intro b
    cases b with
    | nil => simp [mSame]
    | cons y b =>
      simp only [List.map_cons, mSame, ← fgt_eq, ← ih]
      rw [Bool.eq_iff_iff]
      simp
theorem mSame_take (o : Int) : ∀ (k : Nat) (a b : List TSent) (x y : TSent), a[k]? = some x → b[k]? = some y → mSame o (a.take (k + 1)) (b.take (k + 1)) = (mSame o (a.take k) (b.take k) && okS o x y) := by
  intro k
  induction k with
  | zero =>
    intro a b x y ha hb
    cases a with
    | nil => simp at ha
    | cons p a => cases b with
      | nil => simp at hb
      | cons q b => simp at ha hb; subst ha hb; simp [mSame]
  | succ k ih =>
    intro a b x y ha hb
    cases a with
    | nil => simp at ha
    | cons p a => cases b with
      | nil => simp at hb
      | cons q b =>
        simp only [List.getElem?_cons_succ] at ha hb
        simp only [List.take_succ_cons, mSame]
        rw [ih a b x y ha hb, Bool.and_assoc]
theorem mSame_not (o : Int) : ∀ (k : Nat) (a b : List TSent) (x y : TSent), a[k]? = some x → b[k]? = some y → okS o x y = false → mSame o a b = false := by
  intro k
  induction k with
  | zero =>
    intro a b x y ha hb h
    cases a with
    | nil => simp at ha
    | cons p a => cases b with
      | nil => simp at hb
      | cons q b => simp at ha hb; subst ha hb; simp [mSame, h]
  | succ k ih =>
    intro a b x y ha hb h
    cases a with
    | nil => simp at ha
    | cons p a => cases b with
      | nil => simp at hb
      | cons q b =>
        simp only [List.getElem?_cons_succ] at ha hb
        simp only [mSame, ih a b x y ha hb h, Bool.and_false]
theorem mSame_len (o : Int) : ∀ a b : List TSent, a.length ≠ b.length → mSame o a b = false := by
  intro a
  induction a with
  | nil => intro b h; cases b with
    | nil => simp at h
    | cons y b => rfl
  | cons x a ih => intro b h; cases b with
    | nil => rfl
    | cons y b => simp only [mSame, ih b (by simpa using h), Bool.and_false]

theorem mMk_eq (o x : Int) : mMk o x = (inR o 1 9 && mHas (if mIsLabel x then x else 0) o.toNat) := by
  unfold mMk mOwn rangeI
  rw [Bool.eq_iff_iff]
  simp only [decide_eq_true_eq, List.mem_filter, List.mem_map, List.mem_range, Bool.and_eq_true, inR]
  have hz : ∀ k, mHas 0 k = false := fun k => by unfold mHas; rw [Int.zero_ediv]; rfl
  constructor
  · rintro ⟨⟨k, hk, rfl⟩, hl, hh⟩
    rw [hl]
    exact ⟨⟨by omega, by omega⟩, hh⟩
  · rintro ⟨h1, h2⟩
    cases hl : mIsLabel x with
    | false => rw [hl] at h2; simp [hz] at h2
    | true =>
      rw [hl] at h2
      exact ⟨⟨(o - 1).toNat, by omega, by omega⟩, rfl, by simpa using h2⟩
/-- What is left of a list when its first k elements have forgotten. -/
def fg (o : Int) (l : List TSent) (k : Nat) : List TSent := (l.take k).map (fgt o) ++ l.drop k
theorem fg_zero (o : Int) (l : List TSent) : fg o l 0 = l := by simp [fg]
theorem fg_full (o : Int) (l : List TSent) (k : Nat) (h : l.length ≤ k) : fg o l k = l.map (fgt o) := by
  unfold fg
  rw [List.take_of_length_le h, List.drop_eq_nil_of_le h, List.append_nil]
theorem fg_len (o : Int) (l : List TSent) (k : Nat) : (fg o l k).length = l.length := by simp [fg]; omega
theorem fg_get (o : Int) {l : List TSent} {k : Nat} (hk : k < l.length) : (fg o l k)[k]? = l[k]? := by
  unfold fg
  rw [List.getElem?_append_right (by simp; omega)]
  simp
  congr 1
  omega
theorem fg_step (o : Int) {l : List TSent} {k : Nat} {x : TSent} (h : l[k]? = some x) : fg o l (k + 1) = (fg o l k).set k (fgt o x) := by
  obtain ⟨hk, rfl⟩ := List.getElem?_eq_some_iff.1 h
  have hlen : ((l.take k).map (fgt o)).length = k := by simp; omega
  unfold fg
  rw [List.set_append_right _ _ (by omega), hlen, Nat.sub_self, List.drop_eq_getElem_cons hk, List.set_cons_zero, List.take_add_one, h, List.map_append, List.append_assoc]
  rfl
theorem fg_same (o : Int) {l : List TSent} {k : Nat} {x : TSent} (h : l[k]? = some x) (hm : mMk o x.f2 = false) : fg o l (k + 1) = fg o l k := by
  rw [fg_step o h]
  have e : fgt o x = x := by unfold fgt; rw [hm]; simp
  rw [e]
  have hk := (List.getElem?_eq_some_iff.1 h).1
  have := fg_get o hk
  rw [h] at this
  obtain ⟨h1, h2⟩ := List.getElem?_eq_some_iff.1 this
  apply List.ext_getElem?
  intro i
  rw [List.getElem?_set]
  split
  · rename_i e; subst e; try rw [if_pos h1]
    exact this.symm
  · rfl
theorem cells_set1 : ∀ (l : List TSent) (k : Nat) (x : TSent) (v : Int), l[k]? = some x → (cSent l).set (k * 3 + 1) (.int .i64 v) = cSent (l.set k ⟨x.f0, v, x.f2⟩) := by
  intro l
  induction l with
  | nil => intro k x v h; simp at h
  | cons y l ih =>
    intro k x v h
    cases k with
    | zero => simp at h; subst h; simp [cSent, TSent.cells]
    | succ k =>
      have e : (k + 1) * 3 + 1 = (k * 3 + 1) + 3 := by omega
      simp only [List.getElem?_cons_succ] at h
      have := ih k x v h
      simp only [cSent, List.flatMap_cons, TSent.cells, List.set_cons_succ] at this ⊢
      rw [e]
      simp only [List.cons_append, List.nil_append, List.set_cons_succ]
      rw [this]
theorem fg_mark (o : Int) {l : List TSent} {k : Nat} {x : TSent} (h : l[k]? = some x) (hm : mMk o x.f2 = true) : (cSent (fg o l k)).set (k * 3 + 1) (.int .i64 0) = cSent (fg o l (k + 1)) := by
  have hk := (List.getElem?_eq_some_iff.1 h).1
  rw [cells_set1 _ k x 0 ((fg_get o hk).trans h), fg_step o h]
  unfold fgt
  rw [hm]
  rfl
theorem fgt_fit (o : Int) {x : TSent} (h : x.fit) : (fgt o x).fit := by
  unfold fgt
  split
  · exact ⟨h.1, ⟨by show (-9223372036854775808 : Int) ≤ 0; decide, by show (0 : Int) ≤ 9223372036854775807; decide⟩, h.2.2⟩
  · exact h
theorem fr_setc {w : World} {lo hi size n c g j : Nat} {E : TypeId} {xs : List Value} (h : Fr w lo hi E size (some ⟨g, 0, none⟩) n c xs) (hj : j < n * size) (v : Value) : Fr (w.setCell ⟨g, j, none⟩ v) lo hi E size (some ⟨g, 0, none⟩) n c (xs.set j v) := by
  have hn : 0 < n := by
    rcases Nat.eq_zero_or_pos n with h0 | h0
    · subst h0; simp at hj
    · exact h0
  obtain ⟨g', cap, e, hlo, hhi, hnc, rfl, hcm, f, hrow, hf⟩ := h.row hn
  cases e
  refine fr_of_rowcap (hrow.set j v) hlo hhi hnc hcm (by rw [List.length_set]; exact h.len) fun i u hu => ?_
  rw [List.getElem?_set] at hu
  by_cases e : j = i
  · subst e
    rw [if_pos rfl, if_pos (by rw [h.len]; exact hj)] at hu
    rw [if_pos rfl]
    simpa using hu
  · rw [if_neg e] at hu
    rw [if_neg (fun e' => e e'.symm)]
    exact hf i u hu
end Go.Proofs.Ytcankpiidjhhpaa
