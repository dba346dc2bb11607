/- The program ParseInt answers pval and pok of its string, for every string. -/
import Derived.Test.YtnodpempflfffaaDoorFmt
import Derived.Test.YtnodpempflfffaaDoorParseNum
namespace Go.Proofs.YtnodpempflfffaaDoor
open Go.RowKit Go.Lib

theorem byte_facts (s : ByteArray) (k : Nat) (hlt : k < s.size) :
    (isDg s[k] = false → s.data.toList.all isDg = false) ∧ Hid (valOf (s.data.toList.take (k + 1)) = 10 * valOf (s.data.toList.take k) + (s[k].toNat - 48)) ∧
      Hid ((s.data.toList.take (k + 1)).all isDg = ((s.data.toList.take k).all isDg && isDg s[k])) ∧ s[k].toNat < 256 := by
  have hkl : k < s.data.toList.length := by rw [Array.length_toList]; exact hlt
  exact ⟨all_false_at hkl, val_take_snoc hkl, all_take_snoc hkl, s[k].toNat_lt⟩

theorem pokbyte (s : ByteArray) (h : 0 < s.size) : s.data.toList.head? = some s[0] := by
  have hl : 0 < s.data.toList.length := by rw [Array.length_toList]; exact h
  rw [List.head?_eq_getElem?, List.getElem?_eq_getElem hl]; rfl

theorem str_empty (s : ByteArray) : (0 < s.size → s.toList.isEmpty = false) ∧ (s.size = 0 → s.toList.isEmpty = true) := by
  have hsl : s.data.toList.length = s.size := Array.length_toList
  rw [ByteArray.toList_eq]
  constructor
  · intro h
    rw [Bool.eq_false_iff]
    intro he
    rw [List.isEmpty_iff.1 he] at hsl
    simp at hsl
    omega
  · intro h
    rw [h] at hsl
    rw [List.eq_nil_of_length_eq_zero hsl]; rfl
theorem str_len (s : ByteArray) : Hid (s.data.toList.length = s.size) := Array.length_toList

theorem parse_impl (s : ByteArray) (w : World) (hs : s.size ≤ maxLen) :
    Calls Tryd.prog 7 #[.string s] w fun e w' => e = .returned (.tuple #[.int .i64 (pval s.data.toList), .bool (pok s.data.toList)]) ∧ Below w.heap.size w w' := by
  have hs : s.size ≤ 9223372036854775807 := hs
  have Hsl := str_len s
  by_cases h1 : 1 ≤ s.size
  · have h00 : 0 < s.size := by omega
    have hz := (str_empty s).1 h00
    have hh := pokbyte s h00
    by_cases h0 : s[0].toNat = 48 ∧ 1 < s.size
    · obtain ⟨e1, e2⟩ := pok_no (l := s.data.toList) (.inr (.inr (.inl ⟨by rw [Hsl.out]; omega, by rw [hh, UInt8.toNat_inj.1 (show s[0].toNat = (48 : UInt8).toNat from h0.1)]⟩)))
      rw [e1, e2]
      have g0 : ((s[0].toNat : Int) == 48) = true := by simp; omega
      have g1 := h0.2
      clear e1 e2 hh h0
      go_enter Tryd.func7, Tryd.ntmps7
      go_wp2
      go_ret2
      exact ⟨rfl, Below.refl _ _⟩
    · have h0' : s[0].toNat = 48 → s.size ≤ 1 := fun e => by
        have : ¬ 1 < s.size := fun h => h0 ⟨e, h⟩
        omega
      have HP : s.data.toList.all isDg = true → valOf s.data.toList ≤ 1000000000000 → Hid (pok s.data.toList = true ∧ pval s.data.toList = valOf s.data.toList) := fun ha hm => pok_of _ (by
          intro e; have := Hsl.out; rw [e] at this; simp at this; omega) ha (by
          rw [hh, Hsl.out]
          by_cases he : s[0].toNat = 48
          · exact .inl (by have := h0' he; omega)
          · refine .inr fun e => he ?_
            injection e with e
            rw [e]; rfl) hm
      have HN1 : s.data.toList.all isDg = false → Hid (pok s.data.toList = false ∧ pval s.data.toList = 0) := fun h => pok_no (.inr (.inl h))
      have HN2 : 1000000000000 < valOf s.data.toList → Hid (pok s.data.toList = false ∧ pval s.data.toList = 0) := fun h => pok_no (.inr (.inr (.inr h)))
      have HP := Lib.hid HP
      have HN1 := Lib.hid HN1
      have HN2 := Lib.hid HN2
      clear hh h0
      by_cases he : s[0].toNat = 48
      all_goals
        have g1 : s[0].toNat = 48 → decide ((1 : Int) < s.size) = false := fun e => by have := h0' e; simp; omega
        clear h0'
        first
          | (have g0 : ((s[0].toNat : Int) == 48) = true := by simp; omega
             have g1 := g1 he
             have g2 : True := trivial)
          | (have g0 : ((s[0].toNat : Int) == 48) = false := by simp; omega
             clear g1)
        clear he
        go_enter Tryd.func7, Tryd.ntmps7
        go_wp2
        go_loopw [5, 20] (fun _ i wr => ∃ k : Nat, k ≤ s.size ∧ i = .int .i64 k ∧ wr.cell? ⟨w.heap.size, 0, none⟩ = some (.int .i64 (valOf (s.data.toList.take k))) ∧ wr.frozen? ⟨w.heap.size, 0, none⟩ = false ∧
          (s.data.toList.take k).all isDg = true ∧ valOf (s.data.toList.take k) ≤ 1000000000000 ∧ Below w.heap.size w wr ∧ w.heap.size < wr.heap.size) (fun _ i _ => s.size - (intOf i).toNat)
        case atStart => exact ⟨0, by omega, rfl, by rw [World.cell?_alloc_new]; rfl, by go_simp, rfl, by rw [List.take_zero]; decide, (Below.refl _ _).alloc (Nat.le_refl _) _, by simp⟩
        case round =>
          obtain ⟨k, hk, rfl, hc, hf, ha, hv, hb, hz1⟩ := hrel
          by_cases hlt : k < s.size
          · obtain ⟨AF, V, A, hb8⟩ := byte_facts s k hlt
            by_cases hd : isDg s[k] = true
            · have hd' := hd
              simp only [isDg, Bool.and_eq_true, decide_eq_true_eq] at hd'
              obtain ⟨d1, d2⟩ := hd'
              have HD := Lib.hid hd
              clear hd AF
              have g3 : decide ((57 : Int) < s[k].toNat) = false := by simp; omega
              have T := val_take s.data.toList (k + 1)
              by_cases hm : valOf (s.data.toList.take (k + 1)) ≤ 1000000000000
              · have hm' : valOf (s.data.toList.take k) * 10 + (s[k].toNat - 48) ≤ 1000000000000 := by have := V.out; omega
                have g4 : decide ((valOf (s.data.toList.take k) : Int) * 10 + (s[k].toNat - 48) ≤ 1000000000000) = true := by simp; omega
                have g5 : ((valOf (s.data.toList.take k) : Int) * 10 + (s[k].toNat - 48)) = valOf (s.data.toList.take (k + 1)) := by have := V.out; omega
                have G5 := Lib.hid g5
                clear hm' g5
                go_wp2
                go_roundw
                case rel =>
                  refine ⟨k + 1, by omega, by go_num, ?_, ?_, by rw [A.out, ha]; exact HD.out, hm, hb.setCell (Nat.le_refl _) _, ?_⟩
                  · rw [G5.out]; go_simp
                  · go_simp
                  · simpa [World.setCell] using hz1
                case measure => simp [intOf]; omega
              · have g4 : decide ((valOf (s.data.toList.take k) : Int) * 10 + (s[k].toNat - 48) ≤ 1000000000000) = false := by have := V.out; simp; omega
                obtain ⟨e1, e2⟩ := (HN2.out (by omega)).out
                have E1 := Lib.hid e1
                have E2 := Lib.hid e2
                clear e1 e2
                go_wp2
                go_ret2
                exact ⟨by rw [E1.out, E2.out]; rfl, hb.setCell (Nat.le_refl _) _⟩
            · have hd : isDg s[k] = false := by simpa using hd
              obtain ⟨e1, e2⟩ := (HN1.out (AF hd)).out
              have E1 := Lib.hid e1
              have E2 := Lib.hid e2
              clear e1 e2 AF
              by_cases d1 : 48 ≤ s[k].toNat
              · have g3 : decide ((57 : Int) < s[k].toNat) = true := by simp only [isDg, Bool.and_eq_false_iff, decide_eq_false_iff_not] at hd; simp; omega
                clear hd
                go_wp2
                go_ret2
                exact ⟨by rw [E1.out, E2.out]; rfl, hb⟩
              · clear hd
                go_wp2
                go_ret2
                exact ⟨by rw [E1.out, E2.out]; rfl, hb⟩
          · have hall : s.data.toList.take k = s.data.toList := List.take_of_length_le (by rw [Hsl.out]; omega)
            rw [hall] at ha hv hc
            obtain ⟨e1, e2⟩ := (HP.out ha hv).out
            have E1 := Lib.hid e1
            have E2 := Lib.hid e2
            clear e1 e2 hall
            go_wp2
            go_ret2
            exact ⟨by rw [E1.out, E2.out]; rfl, hb⟩
  · have h00 : s.size = 0 := by omega
    have hz := (str_empty s).2 h00
    obtain ⟨e1, e2⟩ := pok_no (l := s.data.toList) (.inl (List.eq_nil_of_length_eq_zero (by rw [Hsl.out]; exact h00)))
    rw [e1, e2]
    clear e1 e2 h00
    go_enter Tryd.func7, Tryd.ntmps7
    go_wp2
    go_ret2
    exact ⟨rfl, Below.refl _ _⟩
end Go.Proofs.YtnodpempflfffaaDoor
