/- Chain, of the program and of the model, follow the deeds. -/
import Derived.Test.YtmdmihilhilkiaaTDeed
import Derived.Deep.LoopGhost
namespace Go.Proofs.Ytmdmihilhilkiaa
open Go Go.ChangeShapes Go.WideShapes Go.ChangeAt Go.RowKit Go.Lib
set_option linter.unusedVariables false
set_option linter.unusedSimpArgs false
set_option maxRecDepth 100000
def sChain (a1 : Int) (h : Int) (x : TDeed) : Int := if (x.f0 == a1 && x.f1 == h) = true then x.f2 else h
def mChain (l : List TDeed) (a1 a2 : Int) : Int := l.foldl (sChain a1) a2
theorem chain_step {l : List TDeed} {k : Nat} {x : TDeed} {a1 a2 : Int} (h : l[k]? = some x) : mChain (l.take (k + 1)) a1 a2 = sChain a1 (mChain (l.take k) a1 a2) x := by
  unfold mChain
  rw [List.take_add_one, h, List.foldl_append]; rfl
theorem chain_all {l : List TDeed} {n : Nat} {a1 a2 : Int} (h : l.length = n) : mChain (l.take n) a1 a2 = mChain l a1 a2 := by
  rw [List.take_of_length_le (by omega)]
set_option maxHeartbeats 4000000 in
theorem spec_Chain (l : List TDeed) (A : Option Addr) (n c lo hi : Nat) (a1 a2 : Int) (w : World) (hn : n ≤ 1048576) (hr : Rd w lo hi 5 A n (cDeed l)) (H : Hid (cDeedOk l)) :
    Calls Try.prog 48 #[.slice A n c, .int .i64 a1, .int .i64 a2] w (Says (.int .i64 (mChain l a1 a2)) w) := by
  have HL := Lib.hid (rd_len TDeed.len hr (by decide))
  have HR := Lib.hid hr
  clear hr
  go_enter Try.func48, Try.ntmps48
  go_wp2_with fail
  go_loopw [2, 7] (fun s i wr => ∃ k : Nat, ∃ v : Int, k ≤ n ∧ i = .int .i64 k ∧ s = .int .i64 v ∧ Hid (v = mChain (l.take k) a1 a2) ∧ Hid (Below w.heap.size w wr)) (fun _ i _ => n - (intOf i).toNat)
  case atStart => exact ⟨0, _, Nat.zero_le _, rfl, rfl, Lib.hid rfl, Lib.hid (Below.refl _ _)⟩
  case round =>
    obtain ⟨k, v, hk, rfl, rfl, HV, HB⟩ := hrel
    by_cases hlt : k < n
    · obtain ⟨b, off, x, rfl, _, _, hz, hc⟩ := rd_elem TDeed.len (HR.out.new HB.out) HL.out hlt
      have c0 : wr.cell? ⟨b, off + k * 5, none⟩ = _ := hc 0 _ rfl
      have c1 := hc 1 _ rfl
      have c2 := hc 2 _ rfl
      have HS := Lib.hid (chain_step (a1 := a1) (a2 := a2) hz)
      clear hz hc
      by_cases h0 : (x.f0 == a1) = true
      · by_cases h1 : (x.f1 == v) = true
        · have HE := Lib.hid (show x.f2 = mChain (l.take (k + 1)) a1 a2 by rw [HS.out, ← HV.out]; unfold sChain; rw [if_pos (by rw [h0, h1]; rfl)])
          go_wp2_with fail
          go_roundw
          case rel => exact ⟨k + 1, _, by omega, by go_num, rfl, HE, HB⟩
          case measure => simp [intOf]; omega
        · have h1 : (x.f1 == v) = false := by simpa using h1
          have HE := Lib.hid (show v = mChain (l.take (k + 1)) a1 a2 by rw [HS.out, ← HV.out]; unfold sChain; rw [if_neg (by rw [h0, h1]; decide)])
          go_wp2_with fail
          go_roundw
          case rel => exact ⟨k + 1, _, by omega, by go_num, rfl, HE, HB⟩
          case measure => simp [intOf]; omega
      · have h0 : (x.f0 == a1) = false := by simpa using h0
        have HE := Lib.hid (show v = mChain (l.take (k + 1)) a1 a2 by rw [HS.out, ← HV.out]; unfold sChain; rw [if_neg (by rw [h0]; simp)])
        go_wp2_with fail
        go_roundw
        case rel => exact ⟨k + 1, _, by omega, by go_num, rfl, HE, HB⟩
        case measure => simp [intOf]; omega
    · obtain rfl : k = n := by omega
      have HE := Lib.hid (HV.out.trans (chain_all HL.out))
      go_wp2_with fail
      go_ret
      exact ⟨by rw [HE.out]; rfl, HB.out⟩
set_option maxHeartbeats 4000000 in
theorem impl_Chain (l : List TDeed) (A : Option Addr) (n c lo hi : Nat) (a1 a2 : Int) (w : World) (hn : n ≤ 1048576) (hr : Rd w lo hi 5 A n (cDeed l)) (H : Hid (cDeedOk l)) :
    Calls Try.prog 50 #[.slice A n c, .int .i64 a1, .int .i64 a2] w (Says (.int .i64 (mChain l a1 a2)) w) := by
  have HL := Lib.hid (rd_len TDeed.len hr (by decide))
  have HR := Lib.hid hr
  clear hr
  go_enter Try.func50, Try.ntmps50
  go_wp2_with fail
  go_loopw [7, 13] (fun s i wr => ∃ k : Nat, ∃ v : Int, k ≤ n ∧ i = .int .i64 k ∧ s = .int .i64 v ∧ Hid (v = mChain (l.take k) a1 a2) ∧ Hid (Below w.heap.size w wr)) (fun _ i _ => n - (intOf i).toNat)
  case atStart => exact ⟨0, _, Nat.zero_le _, rfl, rfl, Lib.hid rfl, Lib.hid (Below.refl _ _)⟩
  case round =>
    obtain ⟨k, v, hk, rfl, rfl, HV, HB⟩ := hrel
    by_cases hlt : k < n
    · obtain ⟨b, off, x, rfl, _, _, hz, hc⟩ := rd_elem TDeed.len (HR.out.new HB.out) HL.out hlt
      have c0 : wr.cell? ⟨b, off + k * 5, none⟩ = _ := hc 0 _ rfl
      have c1 := hc 1 _ rfl
      have c2 := hc 2 _ rfl
      have c3 := hc 3 _ rfl
      have c4 := hc 4 _ rfl
      have HB' := Lib.hid (fun o => HB.out.alloc HB.out.size o)
      have HS := Lib.hid (chain_step (a1 := a1) (a2 := a2) hz)
      clear hz hc
      by_cases h0 : (x.f0 == a1) = true
      · by_cases h1 : (x.f1 == v) = true
        · have HE := Lib.hid (show x.f2 = mChain (l.take (k + 1)) a1 a2 by rw [HS.out, ← HV.out]; unfold sChain; rw [if_pos (by rw [h0, h1]; rfl)])
          go_wp2_with fail
          go_roundw
          case rel => exact ⟨k + 1, _, by omega, by go_num, rfl, HE, Lib.hid (by repeat (first | exact HB.out | (refine Below.setCell ?_ (by have := HB.out.size; simp <;> omega) _) | (refine Below.alloc ?_ (by have := HB.out.size; first | omega | (simp <;> omega)) _)))⟩
          case measure => simp [intOf]; omega
        · have h1 : (x.f1 == v) = false := by simpa using h1
          have HE := Lib.hid (show v = mChain (l.take (k + 1)) a1 a2 by rw [HS.out, ← HV.out]; unfold sChain; rw [if_neg (by rw [h0, h1]; decide)])
          go_wp2_with fail
          go_roundw
          case rel => exact ⟨k + 1, _, by omega, by go_num, rfl, HE, Lib.hid (by repeat (first | exact HB.out | (refine Below.setCell ?_ (by have := HB.out.size; simp <;> omega) _) | (refine Below.alloc ?_ (by have := HB.out.size; first | omega | (simp <;> omega)) _)))⟩
          case measure => simp [intOf]; omega
      · have h0 : (x.f0 == a1) = false := by simpa using h0
        have HE := Lib.hid (show v = mChain (l.take (k + 1)) a1 a2 by rw [HS.out, ← HV.out]; unfold sChain; rw [if_neg (by rw [h0]; simp)])
        go_wp2_with fail
        go_roundw
        case rel => exact ⟨k + 1, _, by omega, by go_num, rfl, HE, Lib.hid (by repeat (first | exact HB.out | (refine Below.setCell ?_ (by have := HB.out.size; simp <;> omega) _) | (refine Below.alloc ?_ (by have := HB.out.size; first | omega | (simp <;> omega)) _)))⟩
        case measure => simp [intOf]; omega
    · obtain rfl : k = n := by omega
      have HE := Lib.hid (HV.out.trans (chain_all HL.out))
      go_wp2_with fail
      go_ret
      exact ⟨by rw [HE.out]; rfl, HB.out⟩
end Go.Proofs.Ytmdmihilhilkiaa
