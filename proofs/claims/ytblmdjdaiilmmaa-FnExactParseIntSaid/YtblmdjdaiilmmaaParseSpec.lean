/- The model's ParseInt, by its text: it answers pval and pok. -/
import Derived.Test.YtblmdjdaiilmmaaParse
namespace Go.Proofs.Ytblmdjdaiilmmaa
open Go.RowKit Go.Lib

theorem parse_spec (s : ByteArray) (w : World) (hs : s.size ≤ maxLen) :
    Calls Try.prog 67 #[.string s] w fun e w' => e = .returned (.tuple #[.int .i64 (pval s.data.toList), .bool (pok s.data.toList)]) ∧ Below w.heap.size w w' := by
  have hs : s.size ≤ 9223372036854775807 := hs
  have hsl : s.data.toList.length = s.size := Array.length_toList
  by_cases h1 : 1 ≤ s.size
  · by_cases h2 : s.size ≤ 13
    · have Hsl := Lib.hid hsl
      clear hsl
      have g1 : decide ((1 : Int) ≤ s.size) = true := by simp; omega
      have g2 : decide ((s.size : Int) ≤ 13) = true := by simp; omega
      go_enter Try.func67, Try.ntmps67
      go_wp2
      go_loop [4, 5] (fun n i => ∃ k : Nat, k ≤ s.size ∧ i = .int .i64 k ∧ n = .int .i64 (valOf (s.data.toList.take k)) ∧ (s.data.toList.take k).all isDg = true) (fun _ i => s.size - (intOf i).toNat)
      case atStart => exact ⟨0, by omega, rfl, rfl, rfl⟩
      case round =>
        obtain ⟨k, hk, rfl, rfl, ha⟩ := hrel
        have hv := val_take_lt _ k ha (by omega)
        by_cases hlt : k < s.size
        · obtain ⟨AF, V, A, hb⟩ := byte_facts s k hlt
          by_cases hd : isDg s[k] = true
          · have hd' := hd
            simp only [isDg, Bool.and_eq_true, decide_eq_true_eq] at hd'
            obtain ⟨d1, d2⟩ := hd'
            have HD := Lib.hid hd
            have g3 : decide ((s[k].toNat : Int) ≤ 57) = true := by simp; omega
            clear hd AF
            go_wp2
            go_round
            case rel => exact ⟨k + 1, by omega, by go_num, by rw [V.out]; go_num, by rw [A.out, ha]; exact HD.out⟩
            case measure => simp [intOf]; omega
          · have hd : isDg s[k] = false := by simpa using hd
            have hf := AF hd
            obtain ⟨e1, e2⟩ := pok_no (.inr (.inl hf))
            have E1 := Lib.hid e1
            have E2 := Lib.hid e2
            clear AF hf e1 e2
            by_cases d1 : 48 ≤ s[k].toNat
            · have g3 : decide ((s[k].toNat : Int) ≤ 57) = false := by simp only [isDg, Bool.and_eq_false_iff, decide_eq_false_iff_not] at hd; simp; omega
              clear hd
              go_wp2
              go_ret2
              exact ⟨by rw [E1.out, E2.out]; rfl, Below.refl _ _⟩
            · clear hd
              go_wp2
              go_ret2
              exact ⟨by rw [E1.out, E2.out]; rfl, Below.refl _ _⟩
        · have hall : s.data.toList.take k = s.data.toList := List.take_of_length_le (by rw [Hsl.out]; omega)
          rw [hall] at ha hv ⊢
          have hne : s.data.toList ≠ [] := by intro e; have := Hsl.out; rw [e] at this; simp at this; omega
          by_cases hm : valOf s.data.toList ≤ 1000000000000
          · have hi := itoa_val _ ha hne
            by_cases h0 : s.data.toList.length = 1 ∨ s.data.toList.head? ≠ some 48
            · obtain ⟨e1, e2⟩ := pok_of _ hne ha h0 hm
              have E1 := Lib.hid e1
              have E2 := Lib.hid e2
              have hq : (itoa ↑(valOf s.data.toList) == s.toList) = true := by rw [ByteArray.toList_eq, beq_iff_eq]; exact hi.2 h0
              clear hall hi ha hne h0 e1 e2
              go_wp2_with (go_at_call 129; refine (format_any _ _ (by omega) (by omega)).mono ?_; rintro e w' ⟨rfl, hb⟩)
              go_ret2
              exact ⟨by rw [E1.out, E2.out]; rfl, hb⟩
            · obtain ⟨e1, e2⟩ := pok_no (.inr (.inr (.inl (by
                by_cases hx : s.data.toList.length = 1
                · exact absurd (.inl hx) h0
                · by_cases hy : s.data.toList.head? = some 48
                  · exact ⟨hx, hy⟩
                  · exact absurd (.inr hy) h0))))
              have E1 := Lib.hid e1
              have E2 := Lib.hid e2
              have hq : (itoa ↑(valOf s.data.toList) == s.toList) = false := by
                rw [ByteArray.toList_eq, Bool.eq_false_iff]
                intro hx
                exact h0 (hi.1 (by simpa using hx))
              clear hall hi ha hne h0 e1 e2
              go_wp2_with (go_at_call 129; refine (format_any _ _ (by omega) (by omega)).mono ?_; rintro e w' ⟨rfl, hb⟩)
              go_ret2
              exact ⟨by rw [E1.out, E2.out]; rfl, hb⟩
          · obtain ⟨e1, e2⟩ := pok_no (.inr (.inr (.inr (by omega : 1000000000000 < valOf s.data.toList))))
            have E1 := Lib.hid e1
            have E2 := Lib.hid e2
            clear e1 e2 ha hne hall
            go_wp2
            go_ret2
            exact ⟨by rw [E1.out, E2.out]; rfl, Below.refl _ _⟩
    · obtain ⟨e1, e2⟩ := pok_long (l := s.data.toList) (by omega)
      rw [e1, e2]
      clear e1 e2 hsl
      have g1 : decide ((1 : Int) ≤ s.size) = true := by simp; omega
      have g2 : decide ((s.size : Int) ≤ 13) = false := by simp; omega
      go_enter Try.func67, Try.ntmps67
      go_wp2
      go_ret2
      exact ⟨rfl, Below.refl _ _⟩
  · obtain ⟨e1, e2⟩ := pok_no (l := s.data.toList) (.inl (List.eq_nil_of_length_eq_zero (by omega)))
    rw [e1, e2]
    clear e1 e2 hsl
    have g1 : decide ((1 : Int) ≤ s.size) = false := by simp; omega
    go_enter Try.func67, Try.ntmps67
    go_wp2
    go_ret2
    exact ⟨rfl, Below.refl _ _⟩

end Go.Proofs.Ytblmdjdaiilmmaa
