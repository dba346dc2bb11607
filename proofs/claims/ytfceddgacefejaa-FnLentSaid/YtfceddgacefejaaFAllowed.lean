/- slices.IndexFunc and slices.ContainsFunc at slices of Grant, with whatever predicate that leaves what was there. -/
import Derived.Test.YtfceddgacefejaaTGrant
import Derived.Test.YtfceddgacefejaaFun
namespace Go.Proofs.Ytfceddgacefejaa
open Go Go.ChangeShapes Go.WideShapes Go.ChangeAt Go.RowKit Go.Lib
set_option linter.unusedVariables false
set_option linter.unusedSimpArgs false
set_option maxRecDepth 100000
set_option maxHeartbeats 4000000 in
theorem index_Allowed (p : TGrant → Bool) (lb : Array Value) (l : List TGrant) (A : Option Addr) (n c lo hi : Nat) (w : World) (hn : n ≤ 17592186044416)
  (hr : Rd w lo hi 7 A n (cGrant l)) (hp : PredB Try.prog 99 lb (fun x : TGrant => .agg #[.int .i64 x.f0, .int .i64 x.f1, .int .i64 x.f2, .int .i64 x.f3, .int .i64 x.f4, .int .i64 x.f5, .bool x.f6]) p l w) :
  Calls Try.prog 202 #[.slice A n c, .func (.func 99) #[] lb] w (Says (.int .i64 (idxP p l)) w) := by
 have HL := Lib.hid (rd_len TGrant.len hr (by decide))
 have HR := Lib.hid hr
 have HP := Lib.hid hp
 clear hr hp
 go_enter Try.func202, Try.ntmps202
 go_wp2_with fail
 go_loopg [5, 8] n (fun gg _ i wr => ∃ k : Nat, k ≤ n ∧ n - k ≤ gg ∧ i = .int .i64 k ∧ Hid (Below w.heap.size w wr) ∧ Hid ((l.take k).any p = false))
 case atStart => exact ⟨0, Nat.zero_le _, by omega, rfl, Lib.hid (Below.refl _ _), Lib.hid (by simp)⟩
 case round =>
  obtain ⟨k, hk, hg, rfl, HB, HF⟩ := hrel
  by_cases hlt : k < n
  ·
   obtain ⟨b, off, x, rfl, _, _, hz, hc⟩ := rd_elem TGrant.len (HR.out.new HB.out) HL.out hlt
   have c0 : wr.cell? ⟨b, off + k * 7, none⟩ = _ := hc 0 _ rfl
   have c1 := hc 1 _ rfl
   have c2 := hc 2 _ rfl
   have c3 := hc 3 _ rfl
   have c4 := hc 4 _ rfl
   have c5 := hc 5 _ rfl
   have c6 := hc 6 _ rfl
   have HZ := Lib.hid hz
   have hcall := HP.out wr x (mem_of_get hz) HB.out
   clear hc hz
   cases hq : p x with
   | true =>
    rw [hq] at hcall
    have HE := Lib.hid (idxP_hit HF.out HZ.out hq)
    clear hq
    go_wp2_with (go_at_call 99; refine hcall.mono ?_; rintro e w1 ⟨rfl, hb1⟩; have HB1 := Lib.hid hb1; clear hb1)
    go_ret
    exact ⟨by rw [HE.out]; rfl, below_trans HB.out HB1.out (Nat.le_refl _)⟩
   | false =>
    rw [hq] at hcall
    have HE := Lib.hid (any_step HF.out HZ.out hq)
    clear hq
    go_wp2_with (go_at_call 99; refine hcall.mono ?_; rintro e w1 ⟨rfl, hb1⟩; have HB1 := Lib.hid hb1; clear hb1)
    go_roundg (n - (k + 1))
    case measure => omega
    case rel => exact ⟨k + 1, by omega, by omega, by go_num, Lib.hid (below_trans HB.out HB1.out (Nat.le_refl _)), HE⟩
  ·
   obtain rfl : k = n := by omega
   have HE := Lib.hid (idxP_miss (by have := HF.out; rw [List.take_of_length_le (by have := HL.out; omega)] at this; exact this))
   go_wp2_with fail
   go_ret
   exact ⟨by rw [HE.out]; rfl, HB.out⟩
theorem contains_Allowed (p : TGrant → Bool) (lb : Array Value) (l : List TGrant) (A : Option Addr) (n c lo hi : Nat) (w : World) (hn : n ≤ 17592186044416)
  (hr : Rd w lo hi 7 A n (cGrant l)) (hp : PredB Try.prog 99 lb (fun x : TGrant => .agg #[.int .i64 x.f0, .int .i64 x.f1, .int .i64 x.f2, .int .i64 x.f3, .int .i64 x.f4, .int .i64 x.f5, .bool x.f6]) p l w) :
  Calls Try.prog 100 #[.slice A n c, .func (.func 99) #[] lb] w (Says (.bool (l.any p)) w) := by
 have HC := index_Allowed p lb l A n c lo hi w hn hr hp
 cases hq : l.any p with
 | true =>
  have hx := idxP_nonneg hq
  generalize idxP p l = r at HC hx
  clear hq hr hp
  have hd : decide (r ≥ 0) = true := by simp; omega
  go_enter Try.func100, Try.ntmps100
  go_wp2_with fail
  refine HC.mono ?_
  rintro e w1 ⟨rfl, hb1⟩
  have HB1 := Lib.hid hb1
  clear hb1
  go_wp2_with fail
  go_ret
  exact ⟨rfl, HB1.out⟩
 | false =>
  have hx := idxP_miss hq
  rw [hx] at HC
  clear hx hq hr hp
  go_enter Try.func100, Try.ntmps100
  go_wp2_with fail
  refine HC.mono ?_
  rintro e w1 ⟨rfl, hb1⟩
  have HB1 := Lib.hid hb1
  clear hb1
  go_wp2_with fail
  go_ret
  exact ⟨rfl, HB1.out⟩
end Go.Proofs.Ytfceddgacefejaa
