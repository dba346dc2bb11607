/- The laws' own helpers on slices of integers: copied, compared, marked, and the marks looked for. -/
import Derived.Test.YtcankpiidjhhpaaSlG
namespace Go.Proofs.Ytcankpiidjhhpaa
open Go Go.ChangeShapes Go.WideShapes Go.ChangeAt Go.RowKit Go.Lib
set_option linter.unusedVariables false
set_option maxRecDepth 100000
theorem to_int (l : List Int) (A : Option Addr) (n c lo hi : Nat) (w : World) (hn : n ≤ 17592186044416) (hr : Rd w lo hi 1 A n (i64s l)) :
  Calls Try.prog 30 #[.slice A n c] w (Makes 3 1 n (i64s l) w) := by
 have hmk := run_make_row' (P := Try.prog) 29 3 (.int .i64 0) 8 Try.underlying29 (by kernel_rfl) rfl .i64 .i64 n (by omega) (by omega)
 have HR := Lib.hid hr
 have HL := Lib.hid (show l.length = n by simpa using hr.1)
 clear hr
 go_enter Try.func30, Try.ntmps30
 go_wp2
 go_loopw [4] (fun i wr => ∃ k : Nat, k ≤ n ∧ i = .int .i64 k ∧ wr.rowIs w.heap.size 3 n (fun j => if j < k then .int .i64 (l.getD j 0) else .int .i64 0) ∧ Below w.heap.size w wr ∧ wr.heap.size = w.heap.size + 1) (fun i _ => n - (intOf i).toNat)
 case atStart => exact ⟨0, Nat.zero_le _, rfl, (World.rowIs_made w _ n _).congr (fun i _ => by simp), (Below.refl _ _).alloc (Nat.le_refl _) _, by simp⟩
 case round =>
  obtain ⟨k, hk, rfl, hrow, hb, hs⟩ := hrel
  have HB := Lib.hid hb
  have HS := Lib.hid hs
  by_cases hlt : k < n
  ·
   obtain ⟨b, off, z, rfl, _, _, hz, hc⟩ := rd_int (HR.out.new hb) hlt
   have HZ := Lib.hid hz
   have c1 := hrow.cell hlt
   have f1 := hrow.frozen k
   have HW := Lib.hid hrow
   clear hrow hb hs hz
   go_wp2
   go_roundw
   case rel => exact ⟨k + 1, by omega, by go_num, (to_row_step hlt HZ.out HW.out HB.out HS.out).1, (to_row_step hlt HZ.out HW.out HB.out HS.out).2.1, (to_row_step hlt HZ.out HW.out HB.out HS.out).2.2⟩
   case measure => simp [intOf]; omega
  ·
   obtain rfl : k = n := by omega
   have HW := Lib.hid hrow
   clear hrow hb hs
   go_wp2
   go_ret
   exact ⟨_, _, rfl, to_row_end HL.out (by unfold maxLen; omega) HW.out HS.out, HB.out⟩

theorem eq_int (l l' : List Int) (A A' : Option Addr) (n n' c c' lo hi lo' hi' : Nat) (w : World) (hn : n ≤ 17592186044416) (hn' : n' ≤ 17592186044416) (hr : Rd w lo hi 1 A n (i64s l)) (hr' : Rd w lo' hi' 1 A' n' (i64s l')) :
  Calls Try.prog 34 #[.slice A n c, .slice A' n' c'] w (Quiet (.bool (decide (l = l'))) w) := by
 have HR := Lib.hid hr
 have HR' := Lib.hid hr'
 have HL := Lib.hid (show l.length = n by simpa using hr.1)
 have HL' := Lib.hid (show l'.length = n' by simpa using hr'.1)
 clear hr hr'
 by_cases hnn : n = n'
 ·
  have g0 : ((n : Int) != n') = false := by simp; omega
  have HN := Lib.hid hnn
  clear hnn
  go_enter Try.func34, Try.ntmps34
  go_wp2
  go_loopw [5] (fun i wr => ∃ k : Nat, k ≤ n ∧ i = .int .i64 k ∧ l.take k = l'.take k ∧ ∃ d, wr = w.drewN d) (fun i _ => n - (intOf i).toNat)
  case atStart => exact ⟨0, Nat.zero_le _, rfl, rfl, 0, rfl⟩
  case round =>
   obtain ⟨k, hk, rfl, ht, d, rfl⟩ := hrel
   have HT := Lib.hid ht
   clear ht
   by_cases hlt : k < n
   ·
    obtain ⟨b, off, z, rfl, _, _, hz, hc⟩ := rd_int HR.out hlt
    obtain ⟨b', off', z', rfl, _, _, hz', hc'⟩ := rd_int HR'.out (show k < n' by have := HN.out; omega)
    have hlt' : k < n' := by have := HN.out; omega
    have HZ := Lib.hid hz
    have HZ' := Lib.hid hz'
    clear hz hz'
    by_cases e : z = z'
    ·
     have g1 : ((z : Int) != z') = false := by simp; omega
     have HE := Lib.hid (take_eq_step HT.out HZ.out HZ'.out e)
     clear e
     go_wp2
     go_quiet (fail)
     go_wp2
     go_roundw
     case rel => exact ⟨k + 1, by omega, by go_num, HE.out, _, rfl⟩
     case measure => simp [intOf]; omega
    ·
     have g1 : ((z : Int) != z') = true := by simp; omega
     have HE := Lib.hid (ne_at HZ.out HZ'.out e)
     clear e
     go_wp2
     go_quiet (fail)
     go_wp2
     go_ret
     exact ⟨by rw [HE.out]; rfl, _, by first | exact World.drewN_drewN _ _ _ | rfl⟩
   ·
    obtain rfl : k = n := by omega
    have HE := Lib.hid (show decide (l = l') = true by
     rw [decide_eq_true_iff]
     have := HT.out
     rw [List.take_of_length_le (by have := HL.out; omega), List.take_of_length_le (by have := HL'.out; have := HN.out; omega)] at this
     exact this)
    go_wp2
    go_ret
    exact ⟨by rw [HE.out]; rfl, _, by first | exact World.drewN_drewN _ _ _ | rfl⟩
 ·
  have g0 : ((n : Int) != n') = true := by simp; omega
  have HE := Lib.hid (show decide (l = l') = false by
   rw [decide_eq_false_iff_not]
   rintro rfl
   have := HL.out; have := HL'.out; omega)
  clear hnn
  go_enter Try.func34, Try.ntmps34
  go_wp2
  go_ret
  exact ⟨by rw [HE.out]; rfl, 0, rfl⟩

theorem mark_int (xs : List Value) (A : Option Addr) (n c lo hi k0 : Nat) (w : World) (hn : n ≤ 17592186044416) (hk0 : k0 ≤ 17592186044416) (hr : Fr w lo hi 3 1 A n c xs) :
  Calls Try.prog 37 #[.slice A n c, .int .i64 (k0 : Int)] w (Marks 3 .i64 lo hi A n c k0 w) := by
 by_cases h0 : 0 < n
 ·
  obtain ⟨g, cap, rfl, hlo, hhi, hcap, rfl, hcm, f, hrow, hf⟩ := hr.row h0
  rw [Nat.mul_one] at hrow
  have HR := Lib.hid hrow
  clear hrow hf hr
  go_enter Try.func37, Try.ntmps37
  go_wp2
  go_loopw [1, 5] (fun q i wr => ∃ k : Nat, k ≤ n ∧ i = .int .i64 k ∧ q = .int .i64 ((k0 + k : Nat) : Int) ∧ wr.rowIs g 3 c (fun j => if j < k then .int .i64 (IntKind.i64.wrap ((k0 + j : Nat) : Int)) else f j) ∧ Chg lo hi w wr ∧ wr.heap.size = w.heap.size) (fun _ i _ => n - (intOf i).toNat)
  case atStart => exact ⟨0, Nat.zero_le _, rfl, rfl, HR.out.congr (fun i _ => by simp), Chg.refl _ _ _, rfl⟩
  case round =>
   obtain ⟨k, hk, rfl, rfl, hrow, hb, hs⟩ := hrel
   have HB := Lib.hid hb
   have HS := Lib.hid hs
   by_cases hlt : k < n
   ·
    have c1 := hrow.cell (show k < c by omega)
    have f1 := hrow.frozen k
    have HW := Lib.hid hrow
    clear hrow hb hs
    go_wp2
    go_roundw
    case rel => 
     refine ⟨k + 1, by omega, by go_num, by go_num, ?_, HB.out.set_ (.inl ⟨hlo, hhi⟩) _, by simpa [World.setCell] using HS.out⟩
     rw [show ((k0 : Int) + k) = IntKind.i64.wrap ((k0 + k : Nat) : Int) by rw [IntKind.wrap_i64]; omega]
     exact mark_row_step HW.out
    case measure => simp [intOf]; omega
   ·
    obtain rfl : k = n := by omega
    have HW := Lib.hid hrow
    clear hrow hb hs
    go_wp2
    go_ret
    exact ⟨rfl, fr_of_rowcap (by rw [Nat.mul_one]; exact HW.out) hlo hhi hcap hcm (by simp [marks_len]) (fun j u hu => by
     obtain ⟨x, hx, rfl⟩ := map_get _ _ _ _ hu
     have hj : j < k := by
      have := (List.getElem?_eq_some_iff.1 hx).1
      rwa [marks_len] at this
     rw [marks_get _ _ _ _ hj] at hx
     injection hx with hx
     simp only [hj, if_true, hx]), HB.out, HS.out⟩
 ·
  obtain rfl : n = 0 := by omega
  have HR := Lib.hid hr
  clear hr h0
  go_enter Try.func37, Try.ntmps37
  go_wp2
  go_loopw [1, 5] (fun q i wr => q = .int .i64 (k0 : Int) ∧ i = .int .i64 0 ∧ wr = w) (fun _ i _ => 0)
  case atStart => exact ⟨rfl, rfl, rfl⟩
  case round =>
   obtain ⟨rfl, rfl, rfl⟩ := hrel
   go_wp2
   go_ret
   exact ⟨rfl, by
    have hx : xs = [] := List.eq_nil_of_length_eq_zero (by simpa using HR.out.len)
    subst hx
    simpa [marks] using HR.out, Chg.refl _ _ _, rfl⟩

section
variable {H : Type} {enc : TypeId × Value → H}
theorem open_int_list {W : World} {base : Nat} {v : Value} {d : DataW H} {p : List MemPlace} (hv : Value.okWide Try.prog W .any base 29 v)
  (h : DataW.Trod enc Try.prog W 0 (fun _ => true) true 29 v d p) (hlt : ∀ x ∈ p, x.block < W.heap.size) :
  ∃ (A : Option Addr) (n cap : Nat) (l : List Int), v = .slice A n cap ∧ n ≤ maxLen ∧ Rd W 0 W.heap.size 1 A n (i64s l) ∧ Hid (I64s l) := by
 obtain ⟨A, n, cap, l, h1, h2, h3, h4⟩ := open_num_list Try.underlying29 Try.underlying3 (by kernel_rfl) hv h hlt
 exact ⟨A, n, cap, l, h1, h2, h3, fun z hz => by have := bounds_i64 (h4 z hz); omega⟩
end
theorem eq_int_same (l : List Int) (A A' : Option Addr) (n n' c c' lo hi lo' hi' : Nat) (w : World) (hn : n ≤ 17592186044416) (hn' : n' ≤ 17592186044416) (hr : Rd w lo hi 1 A n (i64s l)) (hr' : Rd w lo' hi' 1 A' n' (i64s l)) :
  Calls Try.prog 34 #[.slice A n c, .slice A' n' c'] w (Quiet (.bool true) w) := by
 have h := eq_int l l A A' n n' c c' lo hi lo' hi' w hn hn' hr hr'
 rwa [decide_eq_true (show l = l from rfl)] at h
end Go.Proofs.Ytcankpiidjhhpaa
