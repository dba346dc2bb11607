/- Numbers put one by one into an ascending list, each once: what a sort followed by striking out repeats gives. Plain lists. -/
import Derived.Lib.SlicesCompact
namespace Go.Proofs.Ytfceddgacefejaa
open Go Go.Lib
set_option linter.unusedVariables false

/-- A number put into an ascending list. -/
def mPut (n : Int) : List Int → List Int
 | [] => [n]
 | x :: l => if x < n then x :: mPut n l else if x = n then x :: l else n :: x :: l
def mAsd (l : List Int) : List Int := l.foldl (fun a n => mPut n a) []
theorem mem_mPut (n y : Int) : ∀ l : List Int, y ∈ mPut n l ↔ y = n ∨ y ∈ l
 | [] => by simp [mPut]
 | x :: l => by
  unfold mPut
  split
  ·
   simp only [List.mem_cons, mem_mPut n y l]; grind
  ·
   split
   ·
    rename_i h; simp only [List.mem_cons, h]; grind
   ·
    simp only [List.mem_cons]
theorem mPut_len (n : Int) : ∀ l : List Int, (mPut n l).length ≤ l.length + 1
 | [] => by simp [mPut]
 | x :: l => by
  unfold mPut
  have := mPut_len n l
  split
  ·
   simp only [List.length_cons]; omega
  ·
   split <;> simp only [List.length_cons] <;> omega
def Asc (l : List Int) : Prop := l.Pairwise (· < ·)
theorem asc_mPut (n : Int) : ∀ l : List Int, Asc l → Asc (mPut n l)
 | [], _ => by simp [mPut, Asc]
 | x :: l, h => by
  unfold Asc at h
  rw [List.pairwise_cons] at h
  unfold mPut
  split
  ·
   rename_i hx
   unfold Asc
   rw [List.pairwise_cons]
   refine ⟨fun y hy => ?_, asc_mPut n l h.2⟩
   rcases (mem_mPut n y l).1 hy with rfl | hy
   ·
    exact hx
   ·
    exact h.1 y hy
  ·
   split
   ·
    unfold Asc; rw [List.pairwise_cons]; exact h
   ·
    rename_i h1 h2
    unfold Asc
    rw [List.pairwise_cons, List.pairwise_cons]
    refine ⟨fun y hy => ?_, h⟩
    rcases List.mem_cons.1 hy with rfl | hy
    ·
     omega
    ·
     have := h.1 y hy; omega
theorem asc_fold : ∀ (l a : List Int), Asc a → Asc (l.foldl (fun a n => mPut n a) a)
 | [], a, h => h
 | n :: l, a, h => asc_fold l _ (asc_mPut n a h)
theorem mem_fold : ∀ (l a : List Int) (y : Int), y ∈ l.foldl (fun a n => mPut n a) a ↔ y ∈ l ∨ y ∈ a
 | [], a, y => by simp
 | n :: l, a, y => by
  rw [List.foldl_cons, mem_fold l, mem_mPut]
  simp only [List.mem_cons]
  grind
theorem fold_len : ∀ (l a : List Int), (l.foldl (fun a n => mPut n a) a).length ≤ l.length + a.length
 | [], a => by simp
 | n :: l, a => by
  have := fold_len l (mPut n a)
  have := mPut_len n a
  simp only [List.foldl_cons, List.length_cons]
  omega
theorem mAsd_asc (l : List Int) : Asc (mAsd l) := asc_fold l [] List.Pairwise.nil
theorem mem_mAsd (l : List Int) (y : Int) : y ∈ mAsd l ↔ y ∈ l := by
 unfold mAsd; rw [mem_fold]; simp
theorem mAsd_len (l : List Int) : (mAsd l).length ≤ l.length := by
 have := fold_len l []; simpa [mAsd] using this
theorem mAsd_snoc (l : List Int) (n : Int) : mAsd (l ++ [n]) = mPut n (mAsd l) := by
 unfold mAsd; rw [List.foldl_append]; rfl
/-- Two ascending lists of the same members are one. -/
theorem asc_ext : ∀ {a b : List Int}, Asc a → Asc b → (∀ y, y ∈ a ↔ y ∈ b) → a = b
 | [], [], _, _, _ => rfl
 | [], y :: b, _, _, h => by have := (h y).2 (by simp); simp at this
 | x :: a, [], _, _, h => by have := (h x).1 (by simp); simp at this
 | x :: a, y :: b, ha, hb, h => by
  unfold Asc at ha hb
  rw [List.pairwise_cons] at ha hb
  have e : x = y := by
   have h1 := (h x).1 (by simp)
   have h2 := (h y).2 (by simp)
   rcases List.mem_cons.1 h1 with h1 | h1
   ·
    exact h1
   ·
    rcases List.mem_cons.1 h2 with h2 | h2
    ·
     exact h2.symm
    ·
     have := hb.1 x h1; have := ha.1 y h2; omega
  subst e
  rw [asc_ext ha.2 hb.2 (fun z => ⟨fun hz => by
   rcases List.mem_cons.1 ((h z).1 (List.mem_cons_of_mem _ hz)) with rfl | hz'
   ·
    exact absurd (ha.1 _ hz) (by omega)
   ·
    exact hz', fun hz => by
   rcases List.mem_cons.1 ((h z).2 (List.mem_cons_of_mem _ hz)) with rfl | hz'
   ·
    exact absurd (hb.1 _ hz) (by omega)
   ·
    exact hz'⟩)]
/-- What stays of an ascending row with repeats: each once. -/
theorem compact_mem (d : Array Int) (hs : ∀ i j, i < j → j < d.size → d[i]! ≤ d[j]!) : ∀ m, m ≤ d.size → Asc (compactUpTo d m) ∧ (∀ y, y ∈ compactUpTo d m ↔ ∃ i, i < m ∧ d[i]! = y)
 | 0, _ => by simp [compactUpTo, Asc]
 | m + 1, hm => by
  obtain ⟨h1, h2⟩ := compact_mem d hs m (by omega)
  rw [compactUpTo_succ]
  by_cases hk : keeps d m = true
  ·
   rw [if_pos hk]
   constructor
   ·
    unfold Asc at h1 ⊢
    rw [List.pairwise_append]
    refine ⟨h1, by simp, fun a ha b hb => ?_⟩
    simp only [List.mem_singleton] at hb
    subst hb
    obtain ⟨i, hi, rfl⟩ := (h2 a).1 ha
    unfold keeps at hk
    have hle : d[i]! ≤ d[m - 1]! := by
     rcases Nat.lt_or_ge i (m - 1) with h | h
     ·
      exact hs i (m - 1) h (by omega)
     ·
      have : i = m - 1 := by omega
      subst this; exact Int.le_refl _
    have hle2 : d[m - 1]! ≤ d[m]! := hs (m - 1) m (by omega) (by omega)
    have hne : d[m - 1]! ≠ d[m]! := by
     intro e
     simp at hk
     omega
    omega
   ·
    intro y
    rw [List.mem_append, h2 y, List.mem_singleton]
    constructor
    ·
     rintro (⟨i, hi, rfl⟩ | rfl)
     ·
      exact ⟨i, by omega, rfl⟩
     ·
      exact ⟨m, by omega, rfl⟩
    ·
     rintro ⟨i, hi, rfl⟩
     rcases Nat.lt_or_ge i m with h | h
     ·
      exact .inl ⟨i, h, rfl⟩
     ·
      have : i = m := by omega
      subst this; exact .inr rfl
  ·
   rw [if_neg hk, List.append_nil]
   refine ⟨h1, fun y => ?_⟩
   rw [h2 y]
   constructor
   ·
    rintro ⟨i, hi, rfl⟩; exact ⟨i, by omega, rfl⟩
   ·
    rintro ⟨i, hi, rfl⟩
    rcases Nat.lt_or_ge i m with h | h
    ·
     exact ⟨i, h, rfl⟩
    ·
     have : i = m := by omega
     subst this
     unfold keeps at hk
     simp at hk
     exact ⟨i - 1, by omega, by first | exact hk.2 | exact hk.2.symm | omega⟩
theorem asc_compact (l : List Int) : compact (l.mergeSort fun x y => decide (x ≤ y)) = mAsd l := by
 have hp : (l.mergeSort fun x y => decide (x ≤ y)).Pairwise (fun x y => decide (x ≤ y) = true) :=
  List.pairwise_mergeSort (by simp only [decide_eq_true_eq]; intro a b c; omega) (by intro a b; simp only [Bool.or_eq_true, decide_eq_true_eq]; omega) l
 have hm : ∀ y, y ∈ (l.mergeSort fun x y => decide (x ≤ y)) ↔ y ∈ l := fun y => (List.mergeSort_perm l _).mem_iff
 generalize (l.mergeSort fun x y => decide (x ≤ y)) = s at hp hm ⊢
 have hg : ∀ i (h : i < s.length), s.toArray[i]! = s[i] := fun i h => by simp [h]
 obtain ⟨h1, h2⟩ := compact_mem s.toArray (fun i j hij hj => by
  have hj' : j < s.length := by simpa using hj
  rw [hg i (by omega), hg j hj']
  have := List.pairwise_iff_getElem.1 hp i j (by omega) hj' hij
  simpa using this) s.length (by simp)
 refine asc_ext h1 (mAsd_asc l) fun y => ?_
 show y ∈ compactUpTo s.toArray s.length ↔ _
 rw [h2 y, mem_mAsd, ← hm y, List.mem_iff_getElem]
 constructor
 ·
  rintro ⟨i, hi, e⟩; exact ⟨i, hi, by rw [← e, hg i hi]⟩
 ·
  rintro ⟨i, hi, e⟩; exact ⟨i, hi, by rw [hg i hi, e]⟩
end Go.Proofs.Ytfceddgacefejaa
