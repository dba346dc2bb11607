/- The iterator behind WithoutBy. -/
import Derived.Test.YtejcioenoofjlaaGreatEByB
import Derived.RangeFuncNested
import Derived.RangeFuncBound
import Derived.RangeFuncCalls
import Derived.RangeFuncLeaves
import Derived.RangeFuncBox
import Derived.Shelf.Abstract
import Derived.Shelf.RegionOpen
import Derived.WalkKit
import Derived.OwnWalkIn
import Derived.TacticsInMore
import Derived.LoopNIn
import Derived.LoopIn
import Derived.Maps.AppendAt
namespace Go.Proofs.YtejcioenoofjlaaGreat
open Go Go.ChangeShapes Go.WideShapes Go.ChangeAt Go.RowKit Go.Lib Go.Shelf
set_option linter.unusedVariables false
set_option linter.unusedSimpArgs false
set_option maxRecDepth 100000
attribute [local go_sem] Oper.semAt_some
set_option maxHeartbeats 4000000 in
theorem clo_WithoutBy (x : TEdit) (a1 : Int) (B : Nat) (w : World) (h : BoxAt w B 3 #[.int .i64 a1]) : Calls Tryz.prog 45 #[.agg #[.int .i64 x.f0, .int .i64 x.f1, .int .i64 x.f2, .int .i64 x.f3, .int .i64 x.f4, .int .i64 x.f5], .pointer (some ⟨B, 0, none⟩)] w (Says (.bool (x.f5 != a1)) w) := by
  have c0 : w.cell? ⟨B, 0, none⟩ = some (.int .i64 a1) := h.at_ rfl
  have hl := h.lt
  have hne : B ≠ w.heap.size := Nat.ne_of_lt hl
  clear h
  go_enter Tryz.func45, Tryz.ntmps45
  go_wp2_with fail
  go_ret
  exact ⟨by first | rfl | (simp [bne]; done), (Below.refl _ _).alloc (Nat.le_refl _) _⟩

set_option maxHeartbeats 8000000 in
theorem ew_WithoutBy (m : Nat) (hm : 1 ≤ m) (l n₀ : Nat) (xs : List TEdit) (A : Option Addr) (n c lo hi Bl Bk B : Nat) (a1 : Int) (J Jx : List TEdit → World → Prop) (w : World) (hJ : AbidesFrom w.heap.size J)
    (hY : ∀ pre x W1, J pre W1 → pre.length < n → YieldAt Fence.wide (m - 1) Tryz.prog l #[.agg #[.int .i64 x.f0, .int .i64 x.f1, .int .i64 x.f2, .int .i64 x.f3, .int .i64 x.f4, .int .i64 x.f5]] W1 fun e W' => (e = .returned (.bool true) ∧ J (pre ++ [x]) W' ∧ Below n₀ W1 W') ∨ (e = .returned (.bool false) ∧ Jx (pre ++ [x]) W'))
    (kl : BoxAt w Bl 30 #[.slice A n c]) (kk : BoxAt w Bk 70 #[.func (.func 45) #[] #[.pointer (some ⟨B, 0, none⟩)]]) (kb : BoxAt w B 3 #[.int .i64 a1]) (hr : Rd w lo hi 6 A n (cEdit xs)) (hhi : hi ≤ n₀) (hl : Bl < n₀) (hk : Bk < n₀) (hb : B < n₀) (hn : n ≤ 1048576) (hn₀ : n₀ ≤ w.heap.size) (h0 : J [] w) :
    CallsIn Fence.wide m Tryz.prog 54 #[.func (.yield l) #[] #[], .pointer (some ⟨Bl, 0, none⟩), .pointer (some ⟨Bk, 0, none⟩)] w fun e W' => (∃ v, e = .returned v) ∧
      ((∃ ys, ys = xs.filter (fun x => x.f5 != a1) ∧ J ys W') ∨ (∃ pre, True ∧ Jx pre W')) := by
  have HL := Lib.hid (rd_len TEdit.len hr (by decide))
  have HR := Lib.hid hr
  have HY := Lib.hid hY
  have HJ := Lib.hid hJ
  have KL := Lib.hid kl
  have KK := Lib.hid kk
  have KB := Lib.hid kb
  have e0 : w.cell? ⟨Bl, 0, none⟩ = some (.slice A n c) := kl.at_ rfl
  clear hr hY hJ kl kk kb
  refine callsIn_of_wp Tryz.func54 rfl trivial ?_ rfl
  simp only [Tryz.ntmps54, List.size_toArray, List.length_cons, List.length_nil, Nat.reduceAdd, Nat.reduceSub, Array.replicate_succ, Array.replicate_zero, List.push_toArray, List.append_toArray, List.nil_append, List.cons_append]
  gi_wp2
  gi_loopw [8] (fun i wr => ∃ k : Nat, k ≤ n ∧ i = .int .i64 k ∧ Hid (J ((xs.take k).filter (fun x => x.f5 != a1)) wr) ∧ Hid (Below n₀ w wr)) (fun i _ => n - (intOf i).toNat)
  case atStart => exact ⟨0, Nat.zero_le _, rfl, Lib.hid h0, Lib.hid (Below.refl _ _)⟩
  case round =>
    obtain ⟨k, hk', rfl, HJs, HB⟩ := hrel
    by_cases hlt : k < n
    · obtain ⟨b, off, x, rfl, _, _, hz, hc⟩ := rd_elem TEdit.len (HR.out.below HB.out hhi) HL.out hlt
      have c0 : wr.cell? ⟨b, off + k * 6, none⟩ = _ := hc 0 _ rfl
      have c1 := hc 1 _ rfl
      have c2 := hc 2 _ rfl
      have c3 := hc 3 _ rfl
      have c4 := hc 4 _ rfl
      have c5 := hc 5 _ rfl
      have q0 : wr.cell? ⟨Bk, 0, none⟩ = some (.func (.func 45) #[] #[.pointer (some ⟨B, 0, none⟩)]) := (HB.out.cell (p := ⟨Bk, 0, none⟩) hk).trans (KK.out.at_ rfl)
      have qlt : Bk < wr.heap.size := World.block_lt_of_cell? _ _ q0
      have HS := Lib.hid (show n₀ ≤ wr.heap.size by have := HB.out.size; omega)
      have HK1 : Hid (BoxAt (wr.alloc (.cells #[.int .i64 x.f0, .int .i64 x.f1, .int .i64 x.f2, .int .i64 x.f3, .int .i64 x.f4, .int .i64 x.f5] 47)) B 3 #[.int .i64 a1]) := Lib.hid (BoxAt.alloc_ (show BoxAt wr B 3 #[.int .i64 a1] from (HB.out.block B hb).trans KB.out) _)
      have HX0 := Lib.hid (box_new wr 47 #[.int .i64 x.f0, .int .i64 x.f1, .int .i64 x.f2, .int .i64 x.f3, .int .i64 x.f4, .int .i64 x.f5])
      have HJ1 := Lib.hid (HJ.out _ _ _ none HJs.out (World.grownBy_alloc wr (.cells #[.int .i64 x.f0, .int .i64 x.f1, .int .i64 x.f2, .int .i64 x.f3, .int .i64 x.f4, .int .i64 x.f5] 47) none) (fun r e => by cases e))
      have HB1 := Lib.hid (HB.out.alloc HS.out (.cells #[.int .i64 x.f0, .int .i64 x.f1, .int .i64 x.f2, .int .i64 x.f3, .int .i64 x.f4, .int .i64 x.f5] 47))
      have HE := Lib.hid (filter_sn (fun x => x.f5 != a1) hz)
      have C0 := Lib.hid (clo_WithoutBy x a1 B _ HK1.out)
      have hfl : ((xs.take k).filter (fun x => x.f5 != a1)).length < n := Nat.lt_of_le_of_lt (Nat.le_trans (List.length_filter_le _ _) (List.length_take_le _ _)) hlt
      clear hz hc
      cases hv : (x.f5 != a1)
      · rw [hv] at C0
        have H2 := Lib.hid (show (xs.take (k + 1)).filter (fun x => x.f5 != a1) = (xs.take k).filter (fun x => x.f5 != a1) by have := HE.out; rwa [if_neg (by simp only [hv]; decide)] at this)
        clear hv HE
        gi_wp2
        refine ⟨trivial, (callsIn_wide.2 C0.out).mono ?_⟩
        clear C0
        rintro e w2 ⟨rfl, hb2⟩
        have HJ2 := Lib.hid (HJ.out _ _ _ none HJ1.out (grown_of_below hb2) (fun r e => by cases e))
        have HB2 := Lib.hid (HB1.out.trans (hb2.mono (by have := HS.out; simp; omega)))
        clear hb2
        gi_wp2
        all_goals first | (refine ⟨fun _ h => (by cases h), ?_⟩; gi_wp2) | skip
        go_roundw
        case rel => exact ⟨k + 1, by omega, by go_num, Lib.hid (by rw [H2.out]; exact HJ2.out), HB2⟩
        case measure => simp [intOf]; omega
      · rw [hv] at C0
        have H2 := Lib.hid (show (xs.take (k + 1)).filter (fun x => x.f5 != a1) = (xs.take k).filter (fun x => x.f5 != a1) ++ [x] by have := HE.out; rwa [if_pos (by simp only [hv])] at this)
        clear hv HE
        gi_wp2
        refine ⟨trivial, (callsIn_wide.2 C0.out).mono ?_⟩
        clear C0
        rintro e w2 ⟨rfl, hb2⟩
        have HJ2 := Lib.hid (HJ.out _ _ _ none HJ1.out (grown_of_below hb2) (fun r e => by cases e))
        have HB2 := Lib.hid (HB1.out.trans (hb2.mono (by have := HS.out; simp; omega)))
        have HX2 := Lib.hid (HX0.out.new hb2)
        obtain ⟨fn, tmps, assign, body, hy, hR⟩ := HY.out _ x w2 HJ2.out hfl
        have x0 := HX2.out.at_ (j := 0) rfl
        have x1 := HX2.out.at_ (j := 1) rfl
        have x2 := HX2.out.at_ (j := 2) rfl
        have x3 := HX2.out.at_ (j := 3) rfl
        have x4 := HX2.out.at_ (j := 4) rfl
        have x5 := HX2.out.at_ (j := 5) rfl
        clear hb2
        gi_wp2
        refine hR.mono ?_
        rintro e W3 (⟨rfl, hJ3, hk3⟩ | ⟨rfl, hJx3⟩)
        · have HJ3 := Lib.hid hJ3
          have HB3 := Lib.hid (HB2.out.trans hk3)
          clear hJ3 hk3
          gi_wp2
          go_roundw
          case rel => exact ⟨k + 1, by omega, by go_num, Lib.hid (by rw [H2.out]; exact HJ3.out), HB3⟩
          case measure => simp [intOf]; omega
        · have HJ3 := Lib.hid hJx3
          clear hJx3
          gi_wp2
          refine bodyPost_ret (results_none rfl _ _ _) rfl ?_
          exact ⟨⟨_, rfl⟩, .inr ⟨_, trivial, HJ3.out⟩⟩
    · obtain rfl : n = k := by omega
      have HJ2 := Lib.hid (show J (xs.filter (fun x => x.f5 != a1)) wr by have := HJs.out; rwa [List.take_of_length_le (by rw [HL.out]; omega)] at this)
      gi_wp2
      go_end0
      exact ⟨⟨_, rfl⟩, .inl ⟨_, rfl, HJ2.out⟩⟩
theorem stops_WithoutBy (m : Nat) (hm : 1 ≤ m) (n₀ : Nat) (xs : List TEdit) (A : Option Addr) (n c lo hi Bl Bk B : Nat) (a1 : Int) (w : World) (kl : BoxAt w Bl 30 #[.slice A n c]) (kk : BoxAt w Bk 70 #[.func (.func 45) #[] #[.pointer (some ⟨B, 0, none⟩)]]) (kb : BoxAt w B 3 #[.int .i64 a1]) (hr : Rd w lo hi 6 A n (cEdit xs)) (hhi : hi ≤ n₀) (hl : Bl < n₀) (hk : Bk < n₀) (hb : B < n₀) (hn : n ≤ 1048576) (hn₀ : n₀ ≤ w.heap.size) :
    SeqStopsK Fence.wide m Tryz.prog 54 #[.pointer (some ⟨Bl, 0, none⟩), .pointer (some ⟨Bk, 0, none⟩)] (fun x : TEdit => #[Value.agg #[.int .i64 x.f0, .int .i64 x.f1, .int .i64 x.f2, .int .i64 x.f3, .int .i64 x.f4, .int .i64 x.f5]]) (Below n₀) (fun ys => ys = xs.filter (fun x => x.f5 != a1)) (fun _ => True) n w := fun l J Jx W hW hJ _ hY h0 =>
  ew_WithoutBy m hm l n₀ xs A n c lo hi Bl Bk B a1 J Jx W hJ hY (kl.new hW) (kk.new hW) (kb.new hW) (hr.new hW) hhi hl hk hb hn (Nat.le_trans hn₀ hW.size) h0
end Go.Proofs.YtejcioenoofjlaaGreat
