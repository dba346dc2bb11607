import Derived.Test.YteldjnjjdjlpnaaDoorNum
namespace Go.Proofs.YteldjnjjdjlpnaaDoor
open Go.Lib

/-- A decimal digit, and the number that a run of digits spells. -/
def isDg (c : UInt8) : Bool := decide (48 ≤ c.toNat) && decide (c.toNat ≤ 57)
def valOf (l : List UInt8) : Nat := l.foldl (fun a c => 10 * a + (c.toNat - 48)) 0
theorem val_snoc (l : List UInt8) (c : UInt8) : valOf (l ++ [c]) = 10 * valOf l + (c.toNat - 48) := by simp [valOf]

/-- Is the list a decimal numeral in the range, with no leading zero? -/
def pok (l : List UInt8) : Bool := !l.isEmpty && l.all isDg && (l.length == 1 || l.head? != some 48) && decide (valOf l ≤ 1000000000000)
def pval (l : List UInt8) : Int := if pok l then (valOf l : Int) else 0

theorem snoc_ind {α : Type} {P : List α → Prop} (nil : P []) (snoc : ∀ l c, P l → P (l ++ [c])) (l : List α) : P l := by
  have h : ∀ r : List α, P r.reverse := by
    intro r
    induction r with
    | nil => exact nil
    | cons a r ih => rw [List.reverse_cons]; exact snoc _ _ ih
  simpa using h l.reverse
theorem val_lt (l : List UInt8) (h : l.all isDg = true) : valOf l < 10 ^ l.length := by
  induction l using snoc_ind with
  | nil => simp [valOf]
  | snoc l c ih =>
    simp only [List.all_append, Bool.and_eq_true, List.all_cons, List.all_nil, isDg, decide_eq_true_eq] at h
    have := ih h.1
    rw [val_snoc, List.length_append, List.length_singleton, Nat.pow_succ]
    omega
theorem val_mono (l r : List UInt8) : valOf l ≤ valOf (l ++ r) := by
  induction r using snoc_ind with
  | nil => simp
  | snoc r c ih => rw [← List.append_assoc, val_snoc]; omega
theorem val_take (l : List UInt8) (k : Nat) : valOf (l.take k) ≤ valOf l := by
  have := val_mono (l.take k) (l.drop k)
  rwa [List.take_append_drop] at this

theorem ofNat_dig (c : UInt8) (h : isDg c = true) : UInt8.ofNat (48 + (c.toNat - 48)) = c := by
  simp only [isDg, Bool.and_eq_true, decide_eq_true_eq] at h
  rw [show 48 + (c.toNat - 48) = c.toNat by omega]
  simp

theorem val_pos (l : List UInt8) (h : l.all isDg = true) (hne : l ≠ []) (h0 : l.head? ≠ some 48) : 10 ^ (l.length - 1) ≤ valOf l := by
  induction l using snoc_ind with
  | nil => exact absurd rfl hne
  | snoc l c ih =>
    simp only [List.all_append, Bool.and_eq_true, List.all_cons, List.all_nil] at h
    rcases Decidable.em (l = []) with rfl | hl
    · have hc : c ≠ 48 := by simpa using h0
      have := h.2.1
      simp only [isDg, Bool.and_eq_true, decide_eq_true_eq] at this
      have h48 : c.toNat ≠ 48 := fun e => hc (UInt8.toNat_inj.1 (by simpa using e))
      simp [valOf]
      omega
    · have := ih h.1 hl (by
        cases l with
        | nil => exact absurd rfl hl
        | cons a t => simpa using h0)
      rw [val_snoc, List.length_append, List.length_singleton, Nat.add_sub_cancel]
      have hlen : l.length ≠ 0 := by simpa using hl
      obtain ⟨m, hm⟩ : ∃ m, l.length = m + 1 := ⟨l.length - 1, by omega⟩
      rw [hm] at this ⊢
      rw [Nat.add_sub_cancel] at this
      rw [Nat.pow_succ]
      omega

theorem dec_val (l : List UInt8) (h : l.all isDg = true) (hne : l ≠ []) (h0 : l.length = 1 ∨ l.head? ≠ some 48) : decDigits (valOf l) = l := by
  induction l using snoc_ind with
  | nil => exact absurd rfl hne
  | snoc l c ih =>
    simp only [List.all_append, Bool.and_eq_true, List.all_cons, List.all_nil] at h
    have hc := h.2.1
    have hc' := hc
    simp only [isDg, Bool.and_eq_true, decide_eq_true_eq] at hc'
    rcases Decidable.em (l = []) with rfl | hl
    · rw [List.nil_append, decDigits, dif_pos (by simp [valOf]; omega)]
      simp [valOf]
      simpa using ofNat_dig c hc
    · have h0' : l.head? ≠ some 48 := by
        rcases h0 with h0 | h0
        · simp at h0; exact absurd h0 hl
        · cases l with
          | nil => exact absurd rfl hl
          | cons a t => simpa using h0
      have hp := val_pos l h.1 hl h0'
      have := ih h.1 hl (.inr h0')
      have h1 : 1 ≤ 10 ^ (l.length - 1) := Nat.one_le_pow _ _ (by omega)
      rw [val_snoc, decDigits, dif_neg (by omega), show (10 * valOf l + (c.toNat - 48)) / 10 = valOf l by omega,
        show (10 * valOf l + (c.toNat - 48)) % 10 = c.toNat - 48 by omega, this, ofNat_dig c hc]

theorem dec_head (u : Nat) : (decDigits u).length = 1 ∨ (decDigits u).head? ≠ some 48 := by
  induction u using Nat.strongRecOn with
  | _ u ih =>
    by_cases h : u < 10
    · rw [decDigits, dif_pos h]; simp
    · right
      rw [decDigits, dif_neg h]
      have hu := ih (u / 10) (by omega)
      by_cases h2 : u / 10 < 10
      · rw [decDigits, dif_pos h2]
        simp only [List.cons_append, List.head?_cons]
        intro e
        injection e with e
        have := congrArg UInt8.toNat e
        simp at this
        omega
      · have hl : (decDigits (u / 10)).length ≠ 1 := by rw [decDigits_length, nDigits_big h2]; have := nDigits_pos (u / 10 / 10); omega
        rcases hu with hu | hu
        · exact absurd hu hl
        · have : decDigits (u / 10) ≠ [] := by
            intro e
            have := decDigits_length (u / 10)
            rw [e] at this
            have := nDigits_pos (u / 10)
            simp at *
            omega
          cases hd : decDigits (u / 10) with
          | nil => exact absurd hd this
          | cons a t => rw [hd] at hu; simpa using hu

/-- The second program's last test: is the list the numeral of its own number? -/
theorem itoa_val (l : List UInt8) (h : l.all isDg = true) (hne : l ≠ []) : itoa (valOf l) = l ↔ (l.length = 1 ∨ l.head? ≠ some 48) := by
  have e : itoa (valOf l) = decDigits (valOf l) := by rw [itoa, if_neg (by omega)]; rfl
  rw [e]
  constructor
  · intro hh; rw [← hh]; exact dec_head _
  · exact dec_val l h hne

theorem pok_of (l : List UInt8) (hne : l ≠ []) (h : l.all isDg = true) (h0 : l.length = 1 ∨ l.head? ≠ some 48) (hm : valOf l ≤ 1000000000000) : pok l = true ∧ pval l = valOf l := by
  have : pok l = true := by
    simp only [pok, Bool.and_eq_true, decide_eq_true_eq, Bool.or_eq_true, beq_iff_eq, bne_iff_ne, h, hm, and_true]
    exact ⟨by simpa using hne, h0⟩
  exact ⟨this, by rw [pval, if_pos this]⟩
theorem pok_no {l : List UInt8} (h : l = [] ∨ l.all isDg = false ∨ (l.length ≠ 1 ∧ l.head? = some 48) ∨ 1000000000000 < valOf l) : pok l = false ∧ pval l = 0 := by
  have : pok l = false := by
    rw [Bool.eq_false_iff]
    intro hp
    simp only [pok, Bool.and_eq_true, decide_eq_true_eq, Bool.or_eq_true, beq_iff_eq, bne_iff_ne] at hp
    obtain ⟨⟨⟨h1, h2⟩, h3⟩, h4⟩ := hp
    rcases h with h | h | ⟨h, h'⟩ | h
    · subst h; simp at h1
    · rw [h] at h2; cases h2
    · rcases h3 with h3 | h3
      · exact h h3
      · exact h3 h'
    · omega
  exact ⟨this, by rw [pval, if_neg (by simp [this])]⟩
/-- A numeral of more than thirteen digits is out of the range, whatever it is. -/
theorem pok_long {l : List UInt8} (h : 13 < l.length) : pok l = false ∧ pval l = 0 := by
  apply pok_no
  by_cases h1 : l.all isDg = true
  · by_cases h2 : l.head? = some 48
    · exact .inr (.inr (.inl ⟨by omega, h2⟩))
    · refine .inr (.inr (.inr ?_))
      have := val_pos l h1 (by intro e; subst e; simp at h) h2
      have h13 : 10 ^ 13 ≤ 10 ^ (l.length - 1) := Nat.pow_le_pow_right (by omega) (by omega)
      omega
  · exact .inr (.inl (by simpa using h1))
theorem all_take_snoc {l : List UInt8} {k : Nat} (h : k < l.length) : (l.take (k + 1)).all isDg = ((l.take k).all isDg && isDg l[k]) := by
  rw [List.take_succ_eq_append_getElem h, List.all_append]; simp
theorem val_take_snoc {l : List UInt8} {k : Nat} (h : k < l.length) : valOf (l.take (k + 1)) = 10 * valOf (l.take k) + (l[k].toNat - 48) := by
  rw [List.take_succ_eq_append_getElem h, val_snoc]
theorem all_false_at {l : List UInt8} {k : Nat} (h : k < l.length) (hc : isDg l[k] = false) : l.all isDg = false := by
  rw [List.all_eq_false]
  exact ⟨l[k], List.getElem_mem h, by simp [hc]⟩
theorem val_take_lt (l : List UInt8) (k : Nat) (h : (l.take k).all isDg = true) (hk : k ≤ 13) : valOf (l.take k) < 10000000000000 := by
  have h1 := val_lt _ h
  have h2 : 10 ^ (l.take k).length ≤ 10 ^ 13 := Nat.pow_le_pow_right (by omega) (by rw [List.length_take]; omega)
  omega

theorem dec_facts (u : Nat) : (decDigits u).all isDg = true ∧ valOf (decDigits u) = u ∧ decDigits u ≠ [] := by
  induction u using Nat.strongRecOn with
  | _ u ih =>
    by_cases h : u < 10
    · have hu : (UInt8.ofNat (48 + u)).toNat = 48 + u := by simp; omega
      rw [decDigits, dif_pos h]
      refine ⟨?_, ?_, by simp⟩
      · simp only [List.all_cons, List.all_nil, Bool.and_true, isDg, hu, Bool.and_eq_true, decide_eq_true_eq]; omega
      · show 10 * 0 + ((UInt8.ofNat (48 + u)).toNat - 48) = u
        rw [hu]; omega
    · obtain ⟨h1, h2, h3⟩ := ih (u / 10) (by omega)
      have hu : (UInt8.ofNat (48 + u % 10)).toNat = 48 + u % 10 := by simp; omega
      rw [decDigits, dif_neg h]
      refine ⟨?_, ?_, by simp⟩
      · rw [List.all_append, h1]
        simp only [List.all_cons, List.all_nil, Bool.and_true, Bool.true_and, isDg, hu, Bool.and_eq_true, decide_eq_true_eq]; omega
      · rw [val_snoc, h2, hu]; omega

/-- Parsing the numeral of an int. -/
theorem pok_itoa (m : Int) : (0 ≤ m ∧ m ≤ 1000000000000 → pok (itoa m) = true ∧ pval (itoa m) = m) ∧ (¬ (0 ≤ m ∧ m ≤ 1000000000000) → pok (itoa m) = false ∧ pval (itoa m) = 0) := by
  by_cases hm : m < 0
  · refine ⟨fun h => by omega, fun _ => pok_no (.inr (.inl ?_))⟩
    rw [itoa, if_pos hm, List.all_cons]
    have : isDg 45 = false := by decide
    rw [this]; rfl
  · have e : itoa m = decDigits m.toNat := by rw [itoa, if_neg hm]
    obtain ⟨h1, h2, h3⟩ := dec_facts m.toNat
    rw [e]
    constructor
    · intro h
      obtain ⟨p1, p2⟩ := pok_of _ h3 h1 (dec_head _) (by omega)
      exact ⟨p1, by rw [p2, h2]; omega⟩
    · intro h
      exact pok_no (.inr (.inr (.inr (by omega))))
/-- What is parsed is the numeral of its number. -/
theorem itoa_pval {l : List UInt8} (h : pok l = true) : itoa (pval l) = l ∧ 0 ≤ pval l ∧ pval l ≤ 1000000000000 := by
  have h' := h
  simp only [pok, Bool.and_eq_true, decide_eq_true_eq, Bool.or_eq_true, beq_iff_eq, bne_iff_ne] at h'
  obtain ⟨⟨⟨h1, h2⟩, h3⟩, h4⟩ := h'
  rw [pval, if_pos h]
  exact ⟨(itoa_val l h2 (by intro e; subst e; simp at h1)).2 h3, by omega, by omega⟩
end Go.Proofs.YteldjnjjdjlpnaaDoor
