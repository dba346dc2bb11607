/- The iterator behind WithoutBy, for callers that write into boxes of their own. -/
import Derived.Test.YtejcioenoofjlaaGreatItB
import Derived.Test.YtejcioenoofjlaaGreatEIWithoutBy
import Derived.Test.YtejcioenoofjlaaGreatECWithoutBy
import Derived.RangeFuncNested
import Derived.RangeFuncBound
import Derived.RangeFuncCalls
import Derived.RangeFuncLeaves
import Derived.RangeFuncBox
import Derived.Shelf.Abstract
import Derived.Shelf.RegionOpen
import Derived.WalkKit
import Derived.OwnWalkIn
import Derived.TacticsInMore
import Derived.LoopNIn
import Derived.LoopIn
import Derived.Maps.AppendAt
namespace Go.Proofs.YtejcioenoofjlaaGreat
open Go Go.ChangeShapes Go.WideShapes Go.ChangeAt Go.RowKit Go.Lib Go.Shelf
set_option linter.unusedVariables false
set_option linter.unusedSimpArgs false
set_option maxRecDepth 100000
attribute [local go_sem] Oper.semAt_some
set_option maxHeartbeats 8000000 in
theorem ei_WithoutBy (m : Nat) (hm : 1 ≤ m) (l n₀ : Nat) (xs : List TEdit) (A : Option Addr) (n c lo hi Bl Bk B : Nat) (a1 : Int) (J Jx : List TEdit → World → Prop) (w : World) (hJ : AbidesFrom w.heap.size J)
    (hY : ∀ pre x W1, J pre W1 → pre.length < n → YieldAt Fence.wide (m - 1) Tryz.prog l #[.agg #[.int .i64 x.f0, .int .i64 x.f1, .int .i64 x.f2, .int .i64 x.f3, .int .i64 x.f4, .int .i64 x.f5]] W1 fun e W' => (e = .returned (.bool true) ∧ J (pre ++ [x]) W' ∧ KpB n₀ [Bl, Bk, B] W1 W') ∨ (e = .returned (.bool false) ∧ Jx (pre ++ [x]) W'))
    (kl : BoxAt w Bl 30 #[.slice A n c]) (kk : BoxAt w Bk 70 #[.func (.func 45) #[] #[.pointer (some ⟨B, 0, none⟩)]]) (kb : BoxAt w B 3 #[.int .i64 a1]) (hr : Rd w lo hi 6 A n (cEdit xs)) (hhi : hi ≤ n₀) (hn : n ≤ 1048576) (hn₀ : n₀ ≤ w.heap.size) (h0 : J [] w) :
    CallsIn Fence.wide m Tryz.prog 54 #[.func (.yield l) #[] #[], .pointer (some ⟨Bl, 0, none⟩), .pointer (some ⟨Bk, 0, none⟩)] w fun e W' => (∃ v, e = .returned v) ∧
      ((∃ ys, ys = xs.filter (fun x => x.f5 != a1) ∧ J ys W') ∨ (∃ pre, True ∧ Jx pre W')) := by
  have HL := Lib.hid (rd_len TEdit.len hr (by decide))
  have HR := Lib.hid hr
  have HY := Lib.hid hY
  have HJ := Lib.hid hJ
  have KL := Lib.hid kl
  have KK := Lib.hid kk
  have KB := Lib.hid kb
  have e0 : w.cell? ⟨Bl, 0, none⟩ = some (.slice A n c) := kl.at_ rfl
  have HLT := Lib.hid (show ∀ k ∈ [Bl, Bk, B], k < w.heap.size from fun k hk => by
    simp only [List.mem_cons, List.not_mem_nil, or_false] at hk
    rcases hk with rfl | rfl | rfl
    · exact kl.lt
    · exact kk.lt
    · exact kb.lt)
  clear hr hY hJ kl kk kb
  refine callsIn_of_wp Tryz.func54 rfl trivial ?_ rfl
  simp only [Tryz.ntmps54, List.size_toArray, List.length_cons, List.length_nil, Nat.reduceAdd, Nat.reduceSub, Array.replicate_succ, Array.replicate_zero, List.push_toArray, List.append_toArray, List.nil_append, List.cons_append]
  gi_wp2
  gi_loopw [8] (fun i wr => ∃ k : Nat, k ≤ n ∧ i = .int .i64 k ∧ Hid (J ((xs.take k).filter (fun x => x.f5 != a1)) wr) ∧ Hid (KpB n₀ [Bl, Bk, B] w wr)) (fun i _ => n - (intOf i).toNat)
  case atStart => exact ⟨0, Nat.zero_le _, rfl, Lib.hid h0, Lib.hid (KpB.refl _ _ _)⟩
  case round =>
    obtain ⟨k, hk', rfl, HJs, HB⟩ := hrel
    by_cases hlt : k < n
    · obtain ⟨b, off, x, rfl, _, _, hz, hc⟩ := rd_elem TEdit.len (HR.out.below HB.out.1 hhi) HL.out hlt
      have c0 : wr.cell? ⟨b, off + k * 6, none⟩ = _ := hc 0 _ rfl
      have c1 := hc 1 _ rfl
      have c2 := hc 2 _ rfl
      have c3 := hc 3 _ rfl
      have c4 := hc 4 _ rfl
      have c5 := hc 5 _ rfl
      have q0 : wr.cell? ⟨Bk, 0, none⟩ = some (.func (.func 45) #[] #[.pointer (some ⟨B, 0, none⟩)]) := (show BoxAt wr Bk _ _ from (HB.out.2 Bk (by simp)).trans KK.out).at_ rfl
      have qlt : Bk < wr.heap.size := World.block_lt_of_cell? _ _ q0
      have HS := Lib.hid (show n₀ ≤ wr.heap.size by have := HB.out.1.size; omega)
      have HK1 : Hid (BoxAt (wr.alloc (.cells #[.int .i64 x.f0, .int .i64 x.f1, .int .i64 x.f2, .int .i64 x.f3, .int .i64 x.f4, .int .i64 x.f5] 47)) B 3 #[.int .i64 a1]) := Lib.hid (BoxAt.alloc_ (show BoxAt wr B 3 #[.int .i64 a1] from (HB.out.2 B (by simp)).trans KB.out) _)
      have HX0 := Lib.hid (box_new wr 47 #[.int .i64 x.f0, .int .i64 x.f1, .int .i64 x.f2, .int .i64 x.f3, .int .i64 x.f4, .int .i64 x.f5])
      have HJ1 := Lib.hid (HJ.out _ _ _ none HJs.out (World.grownBy_alloc wr (.cells #[.int .i64 x.f0, .int .i64 x.f1, .int .i64 x.f2, .int .i64 x.f3, .int .i64 x.f4, .int .i64 x.f5] 47) none) (fun r e => by cases e))
      have HB1 := Lib.hid (HB.out.new hn₀ HLT.out ((Below.refl _ _).alloc (Nat.le_refl _) (.cells #[.int .i64 x.f0, .int .i64 x.f1, .int .i64 x.f2, .int .i64 x.f3, .int .i64 x.f4, .int .i64 x.f5] 47)))
      have HE := Lib.hid (filter_sn (fun x => x.f5 != a1) hz)
      have C0 := Lib.hid (clo_WithoutBy x a1 B _ HK1.out)
      have hfl : ((xs.take k).filter (fun x => x.f5 != a1)).length < n := Nat.lt_of_le_of_lt (Nat.le_trans (List.length_filter_le _ _) (List.length_take_le _ _)) hlt
      clear hz hc
      cases hv : (x.f5 != a1)
      · rw [hv] at C0
        have H2 := Lib.hid (show (xs.take (k + 1)).filter (fun x => x.f5 != a1) = (xs.take k).filter (fun x => x.f5 != a1) by have := HE.out; rwa [if_neg (by simp only [hv]; decide)] at this)
        clear hv HE
        gi_wp2
        refine ⟨trivial, (callsIn_wide.2 C0.out).mono ?_⟩
        clear C0
        rintro e w2 ⟨rfl, hb2⟩
        have HJ2 := Lib.hid (HJ.out _ _ _ none HJ1.out (grown_of_below hb2) (fun r e => by cases e))
        have HB2 := Lib.hid (HB1.out.new hn₀ HLT.out hb2)
        clear hb2
        gi_wp2
        all_goals first | (refine ⟨fun _ h => (by cases h), ?_⟩; gi_wp2) | skip
        go_roundw
        case rel => exact ⟨k + 1, by omega, by go_num, Lib.hid (by rw [H2.out]; exact HJ2.out), HB2⟩
        case measure => simp [intOf]; omega
      · rw [hv] at C0
        have H2 := Lib.hid (show (xs.take (k + 1)).filter (fun x => x.f5 != a1) = (xs.take k).filter (fun x => x.f5 != a1) ++ [x] by have := HE.out; rwa [if_pos (by simp only [hv])] at this)
        clear hv HE
        gi_wp2
        refine ⟨trivial, (callsIn_wide.2 C0.out).mono ?_⟩
        clear C0
        rintro e w2 ⟨rfl, hb2⟩
        have HJ2 := Lib.hid (HJ.out _ _ _ none HJ1.out (grown_of_below hb2) (fun r e => by cases e))
        have HB2 := Lib.hid (HB1.out.new hn₀ HLT.out hb2)
        have HX2 := Lib.hid (HX0.out.new hb2)
        obtain ⟨fn, tmps, assign, body, hy, hR⟩ := HY.out _ x w2 HJ2.out hfl
        have x0 := HX2.out.at_ (j := 0) rfl
        have x1 := HX2.out.at_ (j := 1) rfl
        have x2 := HX2.out.at_ (j := 2) rfl
        have x3 := HX2.out.at_ (j := 3) rfl
        have x4 := HX2.out.at_ (j := 4) rfl
        have x5 := HX2.out.at_ (j := 5) rfl
        clear hb2
        gi_wp2
        refine hR.mono ?_
        rintro e W3 (⟨rfl, hJ3, hk3⟩ | ⟨rfl, hJx3⟩)
        · have HJ3 := Lib.hid hJ3
          have HB3 := Lib.hid (HB2.out.trans hk3)
          clear hJ3 hk3
          gi_wp2
          go_roundw
          case rel => exact ⟨k + 1, by omega, by go_num, Lib.hid (by rw [H2.out]; exact HJ3.out), HB3⟩
          case measure => simp [intOf]; omega
        · have HJ3 := Lib.hid hJx3
          clear hJx3
          gi_wp2
          refine bodyPost_ret (results_none rfl _ _ _) rfl ?_
          exact ⟨⟨_, rfl⟩, .inr ⟨_, trivial, HJ3.out⟩⟩
    · obtain rfl : n = k := by omega
      have HJ2 := Lib.hid (show J (xs.filter (fun x => x.f5 != a1)) wr by have := HJs.out; rwa [List.take_of_length_le (by rw [HL.out]; omega)] at this)
      gi_wp2
      go_end0
      exact ⟨⟨_, rfl⟩, .inl ⟨_, rfl, HJ2.out⟩⟩
theorem stopk_WithoutBy (m : Nat) (hm : 1 ≤ m) (n₀ : Nat) (xs : List TEdit) (A : Option Addr) (n c lo hi Bl Bk B : Nat) (a1 : Int) (w : World) (kl : BoxAt w Bl 30 #[.slice A n c]) (kk : BoxAt w Bk 70 #[.func (.func 45) #[] #[.pointer (some ⟨B, 0, none⟩)]]) (kb : BoxAt w B 3 #[.int .i64 a1]) (hr : Rd w lo hi 6 A n (cEdit xs)) (hhi : hi ≤ n₀) (hn : n ≤ 1048576) (hn₀ : n₀ ≤ w.heap.size) :
    SeqStopsK Fence.wide m Tryz.prog 54 #[.pointer (some ⟨Bl, 0, none⟩), .pointer (some ⟨Bk, 0, none⟩)] (fun x : TEdit => #[Value.agg #[.int .i64 x.f0, .int .i64 x.f1, .int .i64 x.f2, .int .i64 x.f3, .int .i64 x.f4, .int .i64 x.f5]]) (KpB n₀ [Bl, Bk, B]) (fun ys => ys = xs.filter (fun x => x.f5 != a1)) (fun _ => True) n w := fun l J Jx W hW hJ _ hY h0 =>
  ei_WithoutBy m hm l n₀ xs A n c lo hi Bl Bk B a1 J Jx W hJ hY (kl.new hW) (kk.new hW) (kb.new hW) (hr.new hW) hhi hn (Nat.le_trans hn₀ hW.size) h0
theorem makek_WithoutBy (A : Option Addr) (n c : Nat) (a1 : Int) (w : World) : Calls Tryz.prog 34 #[.slice A n c, .int .i64 a1] w fun e w' => ∃ Bl Bk B : Nat,
    e = .returned (.func (.func 54) #[] #[.pointer (some ⟨Bl, 0, none⟩), .pointer (some ⟨Bk, 0, none⟩)]) ∧ BoxAt w' Bl 30 #[.slice A n c] ∧ BoxAt w' Bk 70 #[.func (.func 45) #[] #[.pointer (some ⟨B, 0, none⟩)]] ∧ BoxAt w' B 3 #[.int .i64 a1] ∧ Below w.heap.size w w' ∧ w.heap.size ≤ Bl ∧ w.heap.size ≤ Bk ∧ w.heap.size ≤ B := by
  have hmf : ∀ (fn : Fn) (first cap : Array Value) (w : World), (Instr.makeFunc fn first cap).run Tryz.prog w = .ok (.func fn first cap) w := fun _ _ _ _ => rfl
  have C0 := Lib.hid (where_WithoutBy A n c w.heap.size (w.alloc (.cells #[.int .i64 a1] 3)))
  have K0 := Lib.hid (box_new w 3 #[.int .i64 a1])
  go_enter Tryz.func34, Tryz.ntmps34
  go_wp2_with fail
  refine C0.out.mono ?_
  rintro e w1 ⟨rfl, h1, h2, hb⟩
  rw [World.size_alloc] at h1 h2
  have H1 := Lib.hid h1
  have H2 := Lib.hid h2
  have H3 := Lib.hid (K0.out.new hb)
  have HB := Lib.hid (below_trans ((Below.refl w.heap.size w).alloc (Nat.le_refl _) (.cells #[.int .i64 a1] 3)) hb (by simp))
  clear h1 h2 hb
  go_wp2_with fail
  go_ret
  exact ⟨_, _, _, rfl, H1.out, H2.out, H3.out, HB.out, by first | omega | exact Nat.le_refl _ | (simp; done) | (simp; omega), by first | omega | exact Nat.le_refl _ | (simp; done) | (simp; omega), by first | omega | exact Nat.le_refl _ | (simp; done) | (simp; omega)⟩
end Go.Proofs.YtejcioenoofjlaaGreat
