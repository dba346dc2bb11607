/- The program ParseInt answers pval and pok of its string, for every string. -/
import Derived.Test.YteldjnjjdjlpnaaDoorFmt
import Derived.Test.YteldjnjjdjlpnaaDoorParseNum
namespace Go.Proofs.YteldjnjjdjlpnaaDoor
open Go.RowKit Go.Lib
set_option linter.unusedVariables false
set_option linter.unusedSimpArgs false

theorem byte_facts (s : ByteArray) (k : Nat) (hlt : k < s.size) :
    (isDg s[k] = false → s.data.toList.all isDg = false) ∧ Hid (valOf (s.data.toList.take (k + 1)) = 10 * valOf (s.data.toList.take k) + (s[k].toNat - 48)) ∧
      Hid ((s.data.toList.take (k + 1)).all isDg = ((s.data.toList.take k).all isDg && isDg s[k])) ∧ s[k].toNat < 256 := by
  have hkl : k < s.data.toList.length := by rw [Array.length_toList]; exact hlt
  exact ⟨all_false_at hkl, val_take_snoc hkl, all_take_snoc hkl, s[k].toNat_lt⟩

theorem pokbyte (s : ByteArray) (h : 0 < s.size) : s.data.toList.head? = some s[0] := by
  have hl : 0 < s.data.toList.length := by rw [Array.length_toList]; exact h
  rw [List.head?_eq_getElem?, List.getElem?_eq_getElem hl]; rfl

theorem str_empty (s : ByteArray) : (0 < s.size → s.toList.isEmpty = false) ∧ (s.size = 0 → s.toList.isEmpty = true) := by
  have hsl : s.data.toList.length = s.size := Array.length_toList
  rw [ByteArray.toList_eq]
  constructor
  · intro h
    rw [Bool.eq_false_iff]
    intro he
    rw [List.isEmpty_iff.1 he] at hsl
    simp at hsl
    omega
  · intro h
    rw [h] at hsl
    rw [List.eq_nil_of_length_eq_zero hsl]; rfl
theorem str_len (s : ByteArray) : Hid (s.data.toList.length = s.size) := Array.length_toList

theorem next_asc (w : World) (s : ByteArray) (z : Int) (k : Nat) (h : k < s.size) (ha : (s[k]'h).toNat < 128) (ty : TypeId) :
    (Instr.next (.pointer (some ⟨w.heap.size + 1, 0, none⟩)) true ty).run Tryd.prog ((w.alloc (.cells #[.int .i64 z] 3)).iter s k) = .ok (.tuple #[.bool true, .int .i64 k, .int .i32 (s[k]'h).toNat]) ((w.alloc (.cells #[.int .i64 z] 3)).iter s (k + 1)) := by
  have e := run_next_ascii (P := Tryd.prog) (w.alloc (.cells #[.int .i64 z] 3)) s k ty h ha
  rwa [show (w.alloc (.cells #[.int .i64 z] 3)).heap.size = w.heap.size + 1 by simp] at e
theorem next_hi (w : World) (s : ByteArray) (z : Int) (k : Nat) (h : k < s.size) (ty : TypeId) :
    (Instr.next (.pointer (some ⟨w.heap.size + 1, 0, none⟩)) true ty).run Tryd.prog ((w.alloc (.cells #[.int .i64 z] 3)).iter s k) = .ok (.tuple #[.bool true, .int .i64 k, .int .i32 (Utf8.decode s k).1]) ((w.alloc (.cells #[.int .i64 z] 3)).iter s (k + (Utf8.decode s k).2)) := by
  have e := run_next_any (P := Tryd.prog) (w.alloc (.cells #[.int .i64 z] 3)) s k ty h
  rwa [show (w.alloc (.cells #[.int .i64 z] 3)).heap.size = w.heap.size + 1 by simp] at e
theorem next_no (w : World) (s : ByteArray) (z : Int) (k : Nat) (h : ¬ k < s.size) (ty : TypeId) :
    (Instr.next (.pointer (some ⟨w.heap.size + 1, 0, none⟩)) true ty).run Tryd.prog ((w.alloc (.cells #[.int .i64 z] 3)).iter s k) = .ok (.tuple #[.bool false]) ((w.alloc (.cells #[.int .i64 z] 3)).iter s k) := by
  have e := run_next_end (P := Tryd.prog) (w.alloc (.cells #[.int .i64 z] 3)) s k ty h
  rwa [show (w.alloc (.cells #[.int .i64 z] 3)).heap.size = w.heap.size + 1 by simp] at e
theorem iterPos_at (w : World) (s : ByteArray) (z : Int) (k : Nat) : ((w.alloc (.cells #[.int .i64 z] 3)).iter s k).iterPos (w.heap.size + 1) = k := by
  have e := World.iterPos_iter (w.alloc (.cells #[.int .i64 z] 3)) s k
  rwa [show (w.alloc (.cells #[.int .i64 z] 3)).heap.size = w.heap.size + 1 by simp] at e
theorem iter_put (w : World) (s : ByteArray) (z z' : Int) (p : Nat) :
    ((w.alloc (.cells #[.int .i64 z] 3)).iter s p).setCell ⟨w.heap.size, 0, none⟩ (.int .i64 z') = (w.alloc (.cells #[.int .i64 z'] 3)).iter s p := by
  simp only [World.iter, World.setCell, World.alloc]
  congr 1
  apply Array.ext_getElem?
  intro k
  simp only [Array.getElem?_push, Array.getElem?_modify, Array.size_push]
  by_cases h1 : k = w.heap.size + 1
  · subst h1; simp
  · by_cases h2 : k = w.heap.size
    · subst h2; simp
    · have h3 : ¬ w.heap.size = k := fun e => h2 e.symm
      simp [h1, h2, h3]
theorem push_dg (s : ByteArray) (w : World) (acc : Nat) (c : Int) (p : Nat) (h1 : 48 ≤ c) (h2 : c ≤ 57) (ha : acc ≤ 1000000000000) :
    Calls Tryd.prog 62 #[.pointer (some ⟨w.heap.size, 0, none⟩), .int .i32 c] ((w.alloc (.cells #[.int .i64 (acc : Int)] 3)).iter s p)
      fun e w' => e = .returned (.bool (decide ((acc : Int) * 10 + (c - 48) ≤ 1000000000000))) ∧ w' = (w.alloc (.cells #[.int .i64 ((acc : Int) * 10 + (c - 48))] 3)).iter s p := by
  have hc : ((w.alloc (.cells #[.int .i64 (acc : Int)] 3)).iter s p).cell? ⟨w.heap.size, 0, none⟩ = some (.int .i64 (acc : Int)) := by
    rw [World.iter, World.cell?_alloc_lt (h := by simp), World.cell?_alloc_new]; rfl
  have hf : ((w.alloc (.cells #[.int .i64 (acc : Int)] 3)).iter s p).frozen? ⟨w.heap.size, 0, none⟩ = false := by
    rw [World.iter, World.frozen?_alloc_past (hn := by simp), World.frozen?_alloc_new]
  have hE := Lib.hid (iter_put w s (acc : Int) ((acc : Int) * 10 + (c - 48)) p)
  generalize (w.alloc (.cells #[.int .i64 (acc : Int)] 3)).iter s p = W at hc hf hE ⊢
  have hb : (W.setCell ⟨w.heap.size, 0, none⟩ (.int .i64 ((acc : Int) * 10 + (c - 48)))).cell? ⟨w.heap.size, 0, none⟩ = some (.int .i64 ((acc : Int) * 10 + (c - 48))) := World.cell?_setCell_same _ _ _ hc
  go_enter Tryd.func62, Tryd.ntmps62
  go_wp2
  go_ret
  exact ⟨rfl, hE.out⟩
theorem push_no (W : World) (v : Value) (c : Int) (h1 : 0 ≤ c) (h2 : c ≤ 2147483647) (h3 : c < 48 ∨ 57 < c) :
    Calls Tryd.prog 62 #[v, .int .i32 c] W fun e w' => e = .returned (.bool false) ∧ w' = W := by
  rcases h3 with h3 | h3
  · go_enter Tryd.func62, Tryd.ntmps62
    go_wp2
    go_ret
    exact ⟨rfl, rfl⟩
  · go_enter Tryd.func62, Tryd.ntmps62
    go_wp2
    go_ret
    exact ⟨rfl, rfl⟩

set_option maxHeartbeats 4000000 in
theorem parse_impl (s : ByteArray) (w : World) (hs : s.size ≤ maxLen) :
    Calls Tryd.prog 11 #[.string s] w fun e w' => e = .returned (.tuple #[.int .i64 (pval s.data.toList), .bool (pok s.data.toList)]) ∧ Below w.heap.size w w' := by
  have hs : s.size ≤ 9223372036854775807 := hs
  have Hsl := str_len s
  by_cases h1 : 1 ≤ s.size
  · have h00 : 0 < s.size := by omega
    have hz := (str_empty s).1 h00
    have hh := pokbyte s h00
    by_cases h0 : s[0].toNat = 48 ∧ 1 < s.size
    · obtain ⟨e1, e2⟩ := pok_no (l := s.data.toList) (.inr (.inr (.inl ⟨by rw [Hsl.out]; omega, by rw [hh, UInt8.toNat_inj.1 (show s[0].toNat = (48 : UInt8).toNat from h0.1)]⟩)))
      rw [e1, e2]
      have g0 : ((s[0].toNat : Int) == 48) = true := by simp; omega
      have g1 := h0.2
      clear e1 e2 hh h0
      go_enter Tryd.func11, Tryd.ntmps11
      go_wp2
      go_ret2
      exact ⟨rfl, Below.refl _ _⟩
    · have h0' : s[0].toNat = 48 → s.size ≤ 1 := fun e => by
        have : ¬ 1 < s.size := fun h => h0 ⟨e, h⟩
        omega
      have HP : s.data.toList.all isDg = true → valOf s.data.toList ≤ 1000000000000 → Hid (pok s.data.toList = true ∧ pval s.data.toList = valOf s.data.toList) := fun ha hm => pok_of _ (by
          intro e; have := Hsl.out; rw [e] at this; simp at this; omega) ha (by
          rw [hh, Hsl.out]
          by_cases he : s[0].toNat = 48
          · exact .inl (by have := h0' he; omega)
          · refine .inr fun e => he ?_
            injection e with e
            rw [e]; rfl) hm
      have HN1 : s.data.toList.all isDg = false → Hid (pok s.data.toList = false ∧ pval s.data.toList = 0) := fun h => pok_no (.inr (.inl h))
      have HN2 : 1000000000000 < valOf s.data.toList → Hid (pok s.data.toList = false ∧ pval s.data.toList = 0) := fun h => pok_no (.inr (.inr (.inr h)))
      have HP := Lib.hid HP
      have HN1 := Lib.hid HN1
      have HN2 := Lib.hid HN2
      clear hh h0
      by_cases he : s[0].toNat = 48
      all_goals
        have g1 : s[0].toNat = 48 → decide ((1 : Int) < s.size) = false := fun e => by have := h0' e; simp; omega
        clear h0'
        first
          | (have g0 : ((s[0].toNat : Int) == 48) = true := by simp; omega
             have g1 := g1 he
             have g2 : True := trivial)
          | (have g0 : ((s[0].toNat : Int) == 48) = false := by simp; omega
             clear g1)
        clear he
        go_enter Tryd.func11, Tryd.ntmps11
        go_wp2
        go_loopw [6] (fun _ wr => ∃ k : Nat, k ≤ s.size ∧ wr = (w.alloc (.cells #[.int .i64 (valOf (s.data.toList.take k))] 3)).iter s k ∧
          (s.data.toList.take k).all isDg = true ∧ valOf (s.data.toList.take k) ≤ 1000000000000) (fun _ wr => s.size - wr.iterPos (w.heap.size + 1))
        case atStart => exact ⟨0, by omega, by first | rfl | simp [World.iter, valOf], rfl, by rw [List.take_zero]; decide⟩
        case round =>
          obtain ⟨k, hk, rfl, ha, hv⟩ := hrel
          have hbel : ∀ (z : Int) (p : Nat), Below w.heap.size w ((w.alloc (.cells #[.int .i64 z] 3)).iter s p) := fun z p => ((Below.refl _ _).alloc (Nat.le_refl _) _).alloc (by simp) _
          by_cases hlt : k < s.size
          · obtain ⟨AF, V, A, hb8⟩ := byte_facts s k hlt
            by_cases h128 : s[k].toNat < 128
            · have hnx := next_asc w s (valOf (s.data.toList.take k)) k hlt h128
              by_cases hd : isDg s[k] = true
              · have hd' := hd
                simp only [isDg, Bool.and_eq_true, decide_eq_true_eq] at hd'
                obtain ⟨d1, d2⟩ := hd'
                have HD := Lib.hid hd
                clear hd AF
                have hpd := Lib.hid (push_dg s w (valOf (s.data.toList.take k)) (s[k].toNat : Int) (k + 1) (by omega) (by omega) hv)
                by_cases hm : valOf (s.data.toList.take (k + 1)) ≤ 1000000000000
                · have G5 := Lib.hid (show ((valOf (s.data.toList.take k) : Nat) : Int) * 10 + ((s[k].toNat : Int) - 48) = ((valOf (s.data.toList.take (k + 1)) : Nat) : Int) by have := V.out; omega)
                  rw [G5.out] at hpd
                  have g4 : decide (((valOf (s.data.toList.take (k + 1)) : Nat) : Int) ≤ 1000000000000) = true := by simp; omega
                  rw [g4] at hpd
                  clear g4
                  generalize (s[k].toNat : Int) = c at hnx hpd
                  go_wp2_with fail
                  refine hpd.out.mono ?_
                  rintro e w' ⟨rfl, rfl⟩
                  go_wp2
                  go_roundw
                  case rel => exact ⟨k + 1, by omega, rfl, by rw [A.out, ha]; exact HD.out, hm⟩
                  case measure => rw [iterPos_at, iterPos_at]; omega
                · have G5 := Lib.hid (show ((valOf (s.data.toList.take k) : Nat) : Int) * 10 + ((s[k].toNat : Int) - 48) = ((valOf (s.data.toList.take (k + 1)) : Nat) : Int) by have := V.out; omega)
                  rw [G5.out] at hpd
                  have g4 : decide (((valOf (s.data.toList.take (k + 1)) : Nat) : Int) ≤ 1000000000000) = false := by simp; omega
                  rw [g4] at hpd
                  clear g4
                  obtain ⟨e1, e2⟩ := (HN2.out (by have := val_take s.data.toList (k + 1); omega)).out
                  have E1 := Lib.hid e1
                  have E2 := Lib.hid e2
                  clear e1 e2
                  generalize (s[k].toNat : Int) = c at hnx hpd
                  go_wp2_with fail
                  refine hpd.out.mono ?_
                  rintro e w' ⟨rfl, rfl⟩
                  go_wp2
                  go_ret2
                  exact ⟨by rw [E1.out, E2.out]; rfl, hbel _ _⟩
              · have hd : isDg s[k] = false := by simpa using hd
                obtain ⟨e1, e2⟩ := (HN1.out (AF hd)).out
                have E1 := Lib.hid e1
                have E2 := Lib.hid e2
                clear e1 e2 AF
                have hpd := Lib.hid (push_no ((w.alloc (.cells #[.int .i64 (valOf (s.data.toList.take k))] 3)).iter s (k + 1)) (.pointer (some ⟨w.heap.size, 0, none⟩)) (s[k].toNat : Int) (by omega) (by omega) (by simp only [isDg, Bool.and_eq_false_iff, decide_eq_false_iff_not] at hd; omega))
                clear hd
                generalize (s[k].toNat : Int) = c at hnx hpd
                go_wp2_with fail
                refine hpd.out.mono ?_
                rintro e w' ⟨rfl, rfl⟩
                go_wp2
                go_ret2
                exact ⟨by rw [E1.out, E2.out]; rfl, hbel _ _⟩
            · have hnx := next_hi w s (valOf (s.data.toList.take k)) k hlt
              have hd : isDg s[k] = false := by simp [isDg]; omega
              obtain ⟨e1, e2⟩ := (HN1.out (AF hd)).out
              have E1 := Lib.hid e1
              have E2 := Lib.hid e2
              clear e1 e2 AF hd
              have q1 := (decode_high s k hlt (by omega)).1
              have q2 := decode_le s k
              have hpd := Lib.hid (push_no ((w.alloc (.cells #[.int .i64 (valOf (s.data.toList.take k))] 3)).iter s (k + (Utf8.decode s k).2)) (.pointer (some ⟨w.heap.size, 0, none⟩)) ((Utf8.decode s k).1 : Int) (by omega) (by omega) (by omega))
              generalize ((Utf8.decode s k).1 : Int) = c at hnx hpd
              go_wp2_with fail
              refine hpd.out.mono ?_
              rintro e w' ⟨rfl, rfl⟩
              go_wp2
              go_ret2
              exact ⟨by rw [E1.out, E2.out]; rfl, hbel _ _⟩
          · have hnx := next_no w s (valOf (s.data.toList.take k)) k hlt
            have hall : s.data.toList.take k = s.data.toList := List.take_of_length_le (by rw [Hsl.out]; omega)
            have hcl : ((w.alloc (.cells #[.int .i64 (valOf (s.data.toList.take k))] 3)).iter s k).cell? ⟨w.heap.size, 0, none⟩ = some (.int .i64 (valOf (s.data.toList.take k))) := by
              rw [World.iter, World.cell?_alloc_lt (h := by simp), World.cell?_alloc_new]; rfl
            rw [hall] at ha hv
            obtain ⟨e1, e2⟩ := (HP.out ha hv).out
            have E1 := Lib.hid e1
            have E2 := Lib.hid (show pval s.data.toList = (valOf (s.data.toList.take k) : Nat) by rw [hall]; exact e2)
            clear e1 e2 hall
            go_wp2
            go_ret2
            exact ⟨by rw [E1.out, E2.out]; rfl, hbel _ _⟩
  · have h00 : s.size = 0 := by omega
    have hz := (str_empty s).2 h00
    obtain ⟨e1, e2⟩ := pok_no (l := s.data.toList) (.inl (List.eq_nil_of_length_eq_zero (by rw [Hsl.out]; exact h00)))
    rw [e1, e2]
    clear e1 e2 h00
    go_enter Tryd.func11, Tryd.ntmps11
    go_wp2
    go_ret2
    exact ⟨rfl, Below.refl _ _⟩
end Go.Proofs.YteldjnjjdjlpnaaDoor
