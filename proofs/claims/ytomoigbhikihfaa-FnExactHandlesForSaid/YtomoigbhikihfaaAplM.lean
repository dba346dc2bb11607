/- What an edit makes of a list of nodes, in plain words; an ascending list with one node more is one list. No condition of its own. -/
import Derived.Test.YtomoigbhikihfaaUnder
import Derived.Test.YtomoigbhikihfaaIsEdit
namespace Go.Proofs.Ytomoigbhikihfaa
open Go Go.ChangeShapes Go.WideShapes Go.ChangeAt Go.RowKit Go.Lib
set_option linter.unusedVariables false
set_option linter.unusedSimpArgs false
set_option maxRecDepth 100000
def nAdd (e : TEdit) : TNode := ⟨e.f1, e.f2, e.f3, e.f4, e.f5⟩
def ahead (k : Int) (x : TNode) : Bool := decide (x.f0 < k)
def insAt (l : List TNode) (e : TEdit) : List TNode := l.takeWhile (ahead e.f1) ++ nAdd e :: l.dropWhile (ahead e.f1)
def mayAdd (l : List TNode) (e : TEdit) : Bool := !(idx l e.f1).isSome && (idx l e.f2).isSome && !decide (e.f1 < e.f2) && !decide (16 ≤ l.length)
def mAdd (l : List TNode) (e : TEdit) : Option (List TNode) := if mayAdd l e then some (insAt l e) else none
def stays (l : List TNode) (id : Int) (x : TNode) : Bool := !mUnder l x.f0 id
def mDrop (l : List TNode) (id : Int) : Option (List TNode) := if (idx l id).isSome then some (l.filter (stays l id)) else none
def setText (e : TEdit) (x : TNode) : TNode := ⟨x.f0, x.f1, x.f2, e.f4, e.f5⟩
def setPar (e : TEdit) (x : TNode) : TNode := ⟨x.f0, e.f2, x.f2, x.f3, e.f5⟩
def mText (l : List TNode) (e : TEdit) : Option (List TNode) := if (idx l e.f1).isSome then some (l.modify (mNodeOf l e.f1).toNat (setText e)) else none
def mayMove (l : List TNode) (e : TEdit) : Bool := (idx l e.f1).isSome && (idx l e.f2).isSome && decide (e.f2 < e.f1)
def mMove (l : List TNode) (e : TEdit) : Option (List TNode) := if mayMove l e then some (l.modify (mNodeOf l e.f1).toNat (setPar e)) else none
def mChange (l : List TNode) (e : TEdit) : Option (List TNode) := if e.f0 = 1 then mAdd l e else if e.f0 = 2 then mDrop l e.f1 else if e.f0 = 3 then mText l e else mMove l e
def mEdited (l : List TNode) (e : TEdit) : Option (List TNode) := if mIsDoc l && mIsEdit e then mChange l e else none
def mApply (l : List TNode) (e : TEdit) : List TNode := (mEdited l e).getD l
def mRun (l : List TNode) (es : List TEdit) : List TNode := es.foldl mApply l

theorem ins_at {l : List TNode} {e : TEdit} {k : Nat} (h1 : ∀ x ∈ l.take k, ahead e.f1 x = true) (h2 : ∀ y, l[k]? = some y → ahead e.f1 y = false) : insAt l e = l.take k ++ nAdd e :: l.drop k := by
  have ht : l.takeWhile (ahead e.f1) = l.take k ∧ l.dropWhile (ahead e.f1) = l.drop k := by
    induction k generalizing l with
    | zero =>
      cases l with
      | nil => simp
      | cons x l =>
        have := h2 x rfl
        simp [List.takeWhile, List.dropWhile, this]
    | succ k ih =>
      cases l with
      | nil => simp
      | cons x l =>
        have hx := h1 x (by simp)
        have := ih (l := l) (fun y hy => h1 y (by simp [hy])) (fun y hy => h2 y (by simpa using hy))
        simp [List.takeWhile, List.dropWhile, hx, this.1, this.2]
  unfold insAt
  rw [ht.1, ht.2]
theorem doc_asc {l : List TNode} (h : mIsDoc l = true) : l.Pairwise (fun x y => x.f0 < y.f0) := by
  have hs : ∀ (d k : Nat) (x y : TNode), l[k]? = some x → l[k + (d + 1)]? = some y → x.f0 < y.f0 := by
    intro d
    induction d with
    | zero =>
      intro k x y hx hy
      have hf := doc_at h hy
      unfold fitAt at hf
      rw [if_neg (by omega), Nat.zero_add, Nat.add_sub_cancel, hx, Bool.and_eq_true] at hf
      exact of_decide_eq_true hf.1
    | succ d ih =>
      intro k x y hx hy
      have hlt := (List.getElem?_eq_some_iff.1 hy).1
      have hz : l[k + (d + 1)]? = some (l[k + (d + 1)]'(by omega)) := List.getElem?_eq_getElem (by omega)
      have h1 := ih k x _ hx hz
      have hf := doc_at h hy
      unfold fitAt at hf
      rw [if_neg (by omega), show k + (d + 1 + 1) - 1 = k + (d + 1) by omega, hz, Bool.and_eq_true] at hf
      have := of_decide_eq_true hf.1
      omega
  rw [List.pairwise_iff_getElem]
  intro i j hi hj hij
  obtain ⟨d, rfl⟩ : ∃ d, j = i + (d + 1) := ⟨j - i - 1, by omega⟩
  exact hs d i _ _ (List.getElem?_eq_getElem hi) (List.getElem?_eq_getElem hj)
theorem idx_none {l : List TNode} {id : Int} (h : (idx l id).isSome = false) : ∀ x ∈ l, x.f0 ≠ id := by
  unfold idx at h
  intro x hx e
  have h2 : l.findIdx? (fun x => x.f0 == id) = none := by
    cases hq : l.findIdx? (fun x => x.f0 == id) with
    | none => rfl
    | some v => rw [hq] at h; cases h
  rw [List.findIdx?_eq_none_iff] at h2
  have := h2 x hx
  simp [e] at this
theorem asc_inj {l : List TNode} (h : l.Pairwise (fun x y => x.f0 < y.f0)) {a b : TNode} (ha : a ∈ l) (hb : b ∈ l) (e : a.f0 = b.f0) : a = b := by
  rw [List.pairwise_iff_getElem] at h
  obtain ⟨i, hi, rfl⟩ := List.getElem_of_mem ha
  obtain ⟨j, hj, rfl⟩ := List.getElem_of_mem hb
  rcases Nat.lt_trichotomy i j with hij | rfl | hij
  · have := h i j hi hj hij; omega
  · rfl
  · have := h j i hj hi hij; omega
theorem ins_perm (l : List TNode) (e : TEdit) : (insAt l e).Perm (l ++ [nAdd e]) := by
  unfold insAt
  have h := List.takeWhile_append_dropWhile (p := ahead e.f1) (l := l)
  refine (List.perm_middle).trans ?_
  rw [h]
  exact (List.perm_append_singleton _ _).symm
theorem ins_asc {l : List TNode} {e : TEdit} (h : l.Pairwise (fun x y => x.f0 < y.f0)) : (insAt l e).Pairwise (fun x y => x.f0 ≤ y.f0) := by
  have hd : ∀ (l : List TNode), l.Pairwise (fun x y => x.f0 < y.f0) → ∀ x ∈ l.dropWhile (ahead e.f1), e.f1 ≤ x.f0 := by
    intro l
    induction l with
    | nil => intro _ x hx; cases hx
    | cons y l ih =>
      intro hp x hx
      rw [List.pairwise_cons] at hp
      rw [List.dropWhile_cons] at hx
      split at hx
      · exact ih hp.2 x hx
      · rename_i hn
        have hy : ¬ y.f0 < e.f1 := by simpa [ahead] using hn
        rcases List.mem_cons.1 hx with rfl | hx
        · omega
        · have := hp.1 x hx; omega
  have ht : ∀ x ∈ l.takeWhile (ahead e.f1), x.f0 < e.f1 := by
    intro x hx
    have := List.all_takeWhile (l := l) (p := ahead e.f1)
    rw [List.all_eq_true] at this
    exact of_decide_eq_true (this x hx)
  have hle : l.Pairwise (fun x y => x.f0 ≤ y.f0) := h.imp (fun h => Int.le_of_lt h)
  unfold insAt
  rw [List.pairwise_append]
  refine ⟨hle.sublist (List.takeWhile_sublist _), ?_, ?_⟩
  · rw [List.pairwise_cons]
    exact ⟨fun x hx => hd l h x hx, hle.sublist (List.dropWhile_sublist _)⟩
  · intro a ha b hb
    have h1 := ht a ha
    rcases List.mem_cons.1 hb with rfl | hb
    · exact Int.le_of_lt h1
    · have := hd l h b hb; omega
/-- An ascending arrangement of a document's nodes and a new one is the one list. -/
theorem ins_one {l d : List TNode} {e : TEdit} (hd : mIsDoc l = true) (hn : (idx l e.f1).isSome = false) (hp : d.Perm (l ++ [nAdd e])) (hs : d.Pairwise (fun x y => x.f0 ≤ y.f0)) : d = insAt l e := by
  have ha := doc_asc hd
  have hi := idx_none hn
  refine List.Perm.eq_of_pairwise (le := fun x y => x.f0 ≤ y.f0) (fun a b hA hB h1 h2 => ?_) hs (ins_asc ha) (hp.trans (ins_perm l e).symm)
  have hA := hp.subset hA
  have hB := (ins_perm l e).subset hB
  have he : a.f0 = b.f0 := by omega
  rcases List.mem_append.1 hA with hA | hA <;> rcases List.mem_append.1 hB with hB | hB
  · exact asc_inj ha hA hB he
  · have := hi a hA; simp at hB; subst hB; exact absurd he this
  · have := hi b hB; simp at hA; subst hA; exact absurd he.symm this
  · simp at hA hB; rw [hA, hB]
theorem ins_len (l : List TNode) (e : TEdit) : (insAt l e).length = l.length + 1 := by
  rw [(ins_perm l e).length_eq]; simp
theorem ins_ok {l : List TNode} {e : TEdit} (h : cNodeOk l) (he : TEdit.fit e) : cNodeOk (insAt l e) := by
  intro x hx
  rcases List.mem_append.1 ((ins_perm l e).subset hx) with hx | hx
  · exact h x hx
  · simp at hx; subst hx
    exact ⟨he.2.1, he.2.2.1, he.2.2.2.1, he.2.2.2.2.1, he.2.2.2.2.2⟩
theorem mod_ok {l : List TNode} {k : Nat} {f : TNode → TNode} (h : cNodeOk l) (hf : ∀ x, TNode.fit x → TNode.fit (f x)) : cNodeOk (l.modify k f) := by
  intro x hx
  obtain ⟨i, hi, rfl⟩ := List.getElem_of_mem hx
  rw [List.getElem_modify]
  split
  · exact hf _ (h _ (List.getElem_mem _))
  · exact h _ (List.getElem_mem _)
theorem text_fit {e : TEdit} (he : TEdit.fit e) (x : TNode) (h : TNode.fit x) : TNode.fit (setText e x) := ⟨h.1, h.2.1, h.2.2.1, he.2.2.2.2.1, he.2.2.2.2.2⟩
theorem par_fit {e : TEdit} (he : TEdit.fit e) (x : TNode) (h : TNode.fit x) : TNode.fit (setPar e x) := ⟨h.1, he.2.2.1, h.2.2.1, h.2.2.2.1, he.2.2.2.2.2⟩
theorem edited_ok {l m : List TNode} {e : TEdit} (h : cNodeOk l) (he : TEdit.fit e) (hm : mEdited l e = some m) : cNodeOk m ∧ m.length ≤ 16 := by
  unfold mEdited at hm
  split at hm
  · rename_i hd
    rw [Bool.and_eq_true] at hd
    have hl : l.length ≤ 16 := by
      have := hd.1
      unfold mIsDoc at this
      rw [Bool.and_eq_true] at this
      have := inR_true.1 this.1
      omega
    unfold mChange at hm
    split at hm
    · unfold mAdd at hm
      split at hm
      · rename_i ha
        injection hm with hm; subst hm
        refine ⟨ins_ok h he, ?_⟩
        rw [ins_len]
        have : decide (16 ≤ l.length) = false := by
          unfold mayAdd at ha
          simp only [Bool.and_eq_true, Bool.not_eq_true'] at ha
          exact ha.2
        have := of_decide_eq_false this
        omega
      · cases hm
    · split at hm
      · unfold mDrop at hm
        split at hm
        · injection hm with hm; subst hm
          exact ⟨fun x hx => h x (List.mem_filter.1 hx).1, Nat.le_trans (List.length_filter_le _ _) hl⟩
        · cases hm
      · split at hm
        · unfold mText at hm
          split at hm
          · injection hm with hm; subst hm
            exact ⟨mod_ok h (text_fit he), by simpa using hl⟩
          · cases hm
        · unfold mMove at hm
          split at hm
          · injection hm with hm; subst hm
            exact ⟨mod_ok h (par_fit he), by simpa using hl⟩
          · cases hm
  · cases hm
theorem apply_ok {l : List TNode} {e : TEdit} (h : cNodeOk l) (he : TEdit.fit e) : cNodeOk (mApply l e) := by
  unfold mApply
  cases hm : mEdited l e with
  | none => exact h
  | some m => exact (edited_ok h he hm).1
theorem apply_len {l : List TNode} {e : TEdit} (h : cNodeOk l) (he : TEdit.fit e) {M : Nat} (hM : 16 ≤ M) (hl : l.length ≤ M) : (mApply l e).length ≤ M := by
  unfold mApply
  cases hm : mEdited l e with
  | none => exact hl
  | some m => have := (edited_ok h he hm).2; show m.length ≤ M; omega
theorem run_snoc (l : List TNode) {es : List TEdit} {k : Nat} {e : TEdit} (h : es[k]? = some e) : mRun l (es.take (k + 1)) = mApply (mRun l (es.take k)) e := by
  unfold mRun
  rw [List.take_add_one, h, Option.toList_some, List.foldl_append]; rfl
theorem isEdit_fit {e : TEdit} (h : mIsEdit e = true) : TEdit.fit e := by
  unfold mIsEdit at h
  simp only [Bool.and_eq_true] at h
  obtain ⟨⟨⟨⟨⟨h0, h1⟩, h2⟩, h3⟩, h4⟩, h5⟩ := h
  have := inR_true.1 h0
  have := inR_true.1 h1
  have := inR_true.1 h2
  have := inR_true.1 h3
  have := inR_true.1 h4
  have := inR_true.1 h5
  refine ⟨⟨?_, ?_⟩, ⟨?_, ?_⟩, ⟨?_, ?_⟩, ⟨?_, ?_⟩, ⟨?_, ?_⟩, ⟨?_, ?_⟩⟩ <;> omega
theorem edited_any {l m : List TNode} {e : TEdit} (h : cNodeOk l) (hm : mEdited l e = some m) : cNodeOk m ∧ m.length ≤ 16 := by
  have he : TEdit.fit e := by
    unfold mEdited at hm
    split at hm
    · rename_i hd
      rw [Bool.and_eq_true] at hd
      exact isEdit_fit hd.2
    · cases hm
  exact edited_ok h he hm
theorem apply_fits {l : List TNode} (e : TEdit) (h : cNodeOk l) : cNodeOk (mApply l e) := by
  unfold mApply
  cases hm : mEdited l e with
  | none => exact h
  | some m => exact (edited_any h hm).1
theorem apply_le {l : List TNode} (e : TEdit) (h : cNodeOk l) {M : Nat} (hM : 16 ≤ M) (hl : l.length ≤ M) : (mApply l e).length ≤ M := by
  unfold mApply
  cases hm : mEdited l e with
  | none => exact hl
  | some m => have := (edited_any h hm).2; show m.length ≤ M; omega
theorem run_fits : ∀ (es : List TEdit) {l : List TNode}, cNodeOk l → cNodeOk (mRun l es)
  | [], _, h => h
  | e :: es, l, h => run_fits es (l := mApply l e) (apply_fits e h)
theorem run_le : ∀ (es : List TEdit) {l : List TNode}, cNodeOk l → ∀ {M : Nat}, 16 ≤ M → l.length ≤ M → (mRun l es).length ≤ M
  | [], _, _, _, _, hl => hl
  | e :: es, l, h, M, hM, hl => run_le es (l := mApply l e) (apply_fits e h) hM (apply_le e h hM hl)
theorem run_last (l : List TNode) (es : List TEdit) (e : TEdit) : mRun l (es ++ [e]) = mApply (mRun l es) e := by
  unfold mRun
  rw [List.foldl_append]; rfl
end Go.Proofs.Ytomoigbhikihfaa
