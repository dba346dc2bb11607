/- laws.at as a function of the index; laws.sameInts. -/
import Derived.Test.YtblmdjdaiilmmaaBsD
namespace Go.Proofs.Ytblmdjdaiilmmaa
open Go Go.ChangeShapes Go.WideShapes Go.ChangeAt Go.RowKit Go.Lib
set_option linter.unusedVariables false
set_option linter.unusedSimpArgs false
set_option maxRecDepth 100000
theorem sb_int (l l' : List Int) (A A' : Option Addr) (n n' c c' lo hi lo' hi' : Nat) (w : World) (hn : n ≤ 17592186044416) (hn' : n' ≤ 17592186044416) (hr : Rd w lo hi 1 A n (i64s l)) (hr' : Rd w lo' hi' 1 A' n' (i64s l')) :
    Calls Try.prog 23 #[.slice A n c, .slice A' n' c'] w (Quiet (.bool (decide (l = l'))) w) := by
  have HR := Lib.hid hr
  have HR' := Lib.hid hr'
  have HL := Lib.hid (show l.length = n by have := hr.1; simpa [i64s] using this)
  have HL' := Lib.hid (show l'.length = n' by have := hr'.1; simpa [i64s] using this)
  clear hr hr'
  by_cases hnn : n = n'
  · have g0 : ((n : Int) != n') = false := by simp; omega
    have HN := Lib.hid hnn
    clear hnn
    go_enter Try.func23, Try.ntmps23
    go_wp2
    go_loopw [5] (fun i wr => ∃ k : Nat, k ≤ n ∧ i = .int .i64 k ∧ l.take k = l'.take k ∧ ∃ d, wr = w.drewN d) (fun i _ => n - (intOf i).toNat)
    case atStart => exact ⟨0, Nat.zero_le _, rfl, rfl, 0, rfl⟩
    case round =>
      obtain ⟨k, hk, rfl, ht, d, rfl⟩ := hrel
      have HT := Lib.hid ht
      clear ht
      by_cases hlt : k < n
      · obtain ⟨b, off, z, rfl, _, _, hz, hc⟩ := rd_int HR.out hlt
        obtain ⟨b', off', z', rfl, _, _, hz', hc'⟩ := rd_int HR'.out (show k < n' by have := HN.out; omega)
        have hlt' : k < n' := by have := HN.out; omega
        have HZ := Lib.hid hz
        have HZ' := Lib.hid hz'
        clear hz hz'
        by_cases e : z = z'
        · have g1 : ((z : Int) != z') = false := by simp; omega
          have HE := Lib.hid (take_eq_step HT.out HZ.out HZ'.out e)
          clear e
          go_wp2
          go_quiet (fail)
          go_wp2
          go_roundw
          case rel => exact ⟨k + 1, by omega, by go_num, HE.out, _, rfl⟩
          case measure => simp [intOf]; omega
        · have g1 : ((z : Int) != z') = true := by simp; omega
          have HE := Lib.hid (ne_at HZ.out HZ'.out e)
          clear e
          go_wp2
          go_quiet (fail)
          go_wp2
          go_ret
          exact ⟨by rw [HE.out]; rfl, _, by first | exact World.drewN_drewN _ _ _ | rfl⟩
      · obtain rfl : k = n := by omega
        have HE := Lib.hid (show decide (l = l') = true by
          rw [decide_eq_true_iff]
          have := HT.out
          rw [List.take_of_length_le (by have := HL.out; omega), List.take_of_length_le (by have := HL'.out; have := HN.out; omega)] at this
          exact this)
        go_wp2
        go_ret
        exact ⟨by rw [HE.out]; rfl, _, by first | exact World.drewN_drewN _ _ _ | rfl⟩
  · have g0 : ((n : Int) != n') = true := by simp; omega
    have HE := Lib.hid (show decide (l = l') = false by
      rw [decide_eq_false_iff_not]
      rintro rfl
      have := HL.out; have := HL'.out; omega)
    clear hnn
    go_enter Try.func23, Try.ntmps23
    go_wp2
    go_ret
    exact ⟨by rw [HE.out]; rfl, 0, rfl⟩

theorem at_det (n c : Nat) (A : Option Addr) (w : World) (hn : n ≤ 1048576) (m : BytesAt w w.heap.size A n) :
    ∃ a : Nat → Int, (∀ k, 0 ≤ a k ∧ a k ≤ 255) ∧ ∀ (W : World) (k : Nat), Below w.heap.size w W → k ≤ 100 → Calls Try.prog 20 #[.slice A n c, .int .i64 (k : Int)] W (Says (.int .i64 (a k)) W) := by
  by_cases h0 : n = 0
  · refine ⟨fun k => ((k : Int) * 31 + (n : Int) * 7) % 256, fun k => by dsimp only; omega, fun W k hb hk => ?_⟩
    have h1 : IntKind.i64.wrap ((k : Int) * 31) = (k : Int) * 31 := IntWalk.i64_in _ (by omega)
    have h2 : IntKind.i64.wrap ((n : Int) * 7) = (n : Int) * 7 := IntWalk.i64_in _ (by omega)
    have h3 : IntKind.i64.wrap ((k : Int) * 31 + (n : Int) * 7) = (k : Int) * 31 + (n : Int) * 7 := IntWalk.i64_in _ (by omega)
    have h4 : IntKind.i64.wrap (((k : Int) * 31 + (n : Int) * 7) % 256) = ((k : Int) * 31 + (n : Int) * 7) % 256 := IntWalk.i64_in _ (by omega)
    have h5 : Int.tmod ((k : Int) * 31 + (n : Int) * 7) 256 = ((k : Int) * 31 + (n : Int) * 7) % 256 := Int.tmod_eq_emod_of_nonneg (by omega)
    have hlt : ¬ (k < n) := by omega
    go_enter Try.func20, Try.ntmps20
    go_wp2_with fail
    go_ret
    exact ⟨by first | rfl | (simp; done) | (simp [h1, h2, h3, h4, h5]; done) | (simp [h1, h2, h3, h4, h5]; omega), Below.refl _ _⟩
  · obtain ⟨b, off, z, rfl, hb0, hz⟩ := m (by omega)
    refine ⟨fun k => if k < n then z k else ((k : Int) * 31 + (n : Int) * 7) % 256, fun k => ?_, fun W k hb hk => ?_⟩
    · dsimp only
      split
      · rename_i h; exact ⟨(hz k h).1, (hz k h).2.1⟩
      · omega
    · dsimp only
      by_cases hlt : k < n
      · rw [if_pos hlt]
        obtain ⟨z0, z1, hc⟩ := hz k hlt
        have c0 : W.cell? ⟨b, off + k, none⟩ = some (.int .u8 (z k)) := (hb.cell (p := ⟨b, off + k, none⟩) hb0).trans hc
        have hw : IntKind.i64.wrap (z k) = z k := IntWalk.i64_in _ (by omega)
        clear hz hc m
        generalize z k = q at z0 z1 c0 hw ⊢
        rcases Nat.eq_zero_or_pos k with hk0 | hk0
        · subst hk0
          have c0' : W.cell? ⟨b, off, none⟩ = some (.int .u8 q) := c0
          go_enter Try.func20, Try.ntmps20
          go_wp2_with fail
          go_ret
          exact ⟨by first | rfl | (simp; done), Below.refl _ _⟩
        · go_enter Try.func20, Try.ntmps20
          go_wp2_with fail
          go_ret
          exact ⟨by first | rfl | (simp; done), Below.refl _ _⟩
      · rw [if_neg hlt]
        have h1 : IntKind.i64.wrap ((k : Int) * 31) = (k : Int) * 31 := IntWalk.i64_in _ (by omega)
        have h2 : IntKind.i64.wrap ((n : Int) * 7) = (n : Int) * 7 := IntWalk.i64_in _ (by omega)
        have h3 : IntKind.i64.wrap ((k : Int) * 31 + (n : Int) * 7) = (k : Int) * 31 + (n : Int) * 7 := IntWalk.i64_in _ (by omega)
        have h4 : IntKind.i64.wrap (((k : Int) * 31 + (n : Int) * 7) % 256) = ((k : Int) * 31 + (n : Int) * 7) % 256 := IntWalk.i64_in _ (by omega)
        have h5 : Int.tmod ((k : Int) * 31 + (n : Int) * 7) 256 = ((k : Int) * 31 + (n : Int) * 7) % 256 := Int.tmod_eq_emod_of_nonneg (by omega)
        clear hz m
        go_enter Try.func20, Try.ntmps20
        go_wp2_with fail
        go_ret
        exact ⟨by first | rfl | (simp; done) | (simp [h1, h2, h3, h4, h5]; done) | (simp [h1, h2, h3, h4, h5]; omega), Below.refl _ _⟩
end Go.Proofs.Ytblmdjdaiilmmaa
