/- DrFa, what is needed of it. -/
import Derived.Test.YtcankpiidjhhpaaYGe
import Derived.Test.YtcankpiidjhhpaaYDrL
import Derived.Test.YtcankpiidjhhpaaYGd
import Derived.Test.YtcankpiidjhhpaaYGc
import Derived.Test.YtcankpiidjhhpaaYGa
import Derived.Deep.LoopGhost
namespace Go.Proofs.Ytcankpiidjhhpaa
open Go Go.ChangeShapes Go.WideShapes Go.ChangeAt Go.RowKit Go.Lib
set_option linter.unusedVariables false
set_option linter.unusedSimpArgs false
set_option maxRecDepth 100000
theorem infoFlow : (Try.prog.info? 87).map (fun i => (i.zero, i.size, i.bytes)) = some (some (.agg #[.int .i64 0, .int .i64 0, .int .i64 0]), 3, 24) := by kernel_rfl
theorem onesFlow (x : TFlow) : ∀ u ∈ (#[.int .i64 x.f0, .int .i64 x.f1, .int .i64 x.f2] : Array Value).toList, u.oneCell' = true := by
  intro u hu
  simp only [List.mem_cons, List.not_mem_nil, or_false] at hu
  rcases hu with rfl | rfl | rfl <;> rfl
set_option maxHeartbeats 8000000 in
theorem flow_any (g n cap : Nat) (A : Option Addr) (w : World) (hn : n ≤ maxLen) (hc : Cur w g A n cap) :
    Calls Try.prog 65 #[.pointer (some ⟨g, 0, none⟩)] w (Drw g A n cap (fun x : TFlow => Value.agg #[.int .i64 x.f0, .int .i64 x.f1, .int .i64 x.f2]) TFlow.fit w) := by
  have HC := Lib.hid hc
  have HLT := hc.lt
  have HG := Lib.hid (World.grownBy.refl w (some g))
  clear hc
  have R := Lib.hid (show BoxAt (w.alloc (.cells #[.int .i64 0, .int .i64 0, .int .i64 0] 87)) w.heap.size 87 #[.int .i64 0, .int .i64 0, .int .i64 0] from by simpa using box_new w 87 #[.int .i64 0, .int .i64 0, .int .i64 0])
  have aR : w.heap.size ≤ w.heap.size := by have := HG.out.size; (try simp at this); omega
  replace HC := Lib.hid (HC.out.new (.cells #[.int .i64 0, .int .i64 0, .int .i64 0] 87))
  replace HG := Lib.hid (dr_al HG.out (.cells #[.int .i64 0, .int .i64 0, .int .i64 0] 87))
  go_enter Try.func65, Try.ntmps65
  go_wp2_with fail
  refine Calls.mono (below_any g n cap A 3 _ hn HC.out (by omega) (by omega)) ?_
  rintro e w1 ⟨y0, hy0a, hy0b, rfl, hc, hg⟩
  replace R := Lib.hid (R.out.grown hg (by omega))
  have lR : w.heap.size < w1.heap.size := R.out.lt
  replace HC := Lib.hid hc
  replace HG := Lib.hid (grown_both HG.out hg)
  have s1 : w.heap.size ≤ w1.heap.size := HG.out.size
  clear hc hg
  go_wp2_with fail
  refine Calls.mono (below_any g n cap A 4 _ hn HC.out (by omega) (by omega)) ?_
  rintro e w2 ⟨y1, hy1a, hy1b, rfl, hc, hg⟩
  replace R := Lib.hid (R.out.grown hg (by omega))
  have lR : w.heap.size < w2.heap.size := R.out.lt
  replace HC := Lib.hid hc
  replace HG := Lib.hid (grown_both HG.out hg)
  have s2 : w.heap.size ≤ w2.heap.size := HG.out.size
  clear hc hg
  go_wp2_with fail
  refine Calls.mono (below_any g n cap A 4 _ hn HC.out (by omega) (by omega)) ?_
  rintro e w3 ⟨y2, hy2a, hy2b, rfl, hc, hg⟩
  replace R := Lib.hid (R.out.grown hg (by omega))
  have lR : w.heap.size < w3.heap.size := R.out.lt
  replace HC := Lib.hid hc
  replace HG := Lib.hid (grown_both HG.out hg)
  have s3 : w.heap.size ≤ w3.heap.size := HG.out.size
  clear hc hg
  have HF : Hid (TFlow.fit ⟨1 + y0, 1 + y1, 1 + y2⟩) := Lib.hid (by unfold TFlow.fit; simp only; omega)
  obtain ⟨x4, hx⟩ : ∃ x, x = World.setRow w3 w.heap.size #[.int .i64 (1 + y0), .int .i64 (1 + y1), .int .i64 (1 + y2)] := ⟨_, rfl⟩
  have HX4 := Lib.hid hx
  have OLD4 := R
  replace R := Lib.hid (show BoxAt x4 w.heap.size 87 #[.int .i64 (1 + y0), .int .i64 (1 + y1), .int .i64 (1 + y2)] by rw [hx]; exact box_row R.out)
  replace HC := Lib.hid (show Cur x4 g A n cap by rw [hx]; exact dr_cur_row HC.out (by omega) _)
  replace HG := Lib.hid (show w.grownBy x4 (some g) by rw [hx]; exact dr_row HG.out (by omega) _)
  have z4 : w.heap.size ≤ x4.heap.size := HG.out.size
  have lR : w.heap.size < x4.heap.size := R.out.lt
  clear hx
  go_wp2_with (refine wpList_store_row rfl 87 _ _ rfl w.heap.size #[.int .i64 (1 + y0), .int .i64 (1 + y1), .int .i64 (1 + y2)] rfl rfl 87 _ OLD4.out (by kernel_rfl) (by kernel_rfl) (by kernel_rfl) ?_; rw [← HX4.out]; clear HX4 OLD4)
  have rR0 := R.out.at_ (j := 0) rfl
  have rR1 := R.out.at_ (j := 1) rfl
  have rR2 := R.out.at_ (j := 2) rfl
  exact bodyPost_ret (v := .agg #[.int .i64 (1 + y0), .int .i64 (1 + y1), .int .i64 (1 + y2)]) (by simp [results, Try.results65, go_sem, rR0, rR1, rR2]) rfl ⟨⟨1 + y0, 1 + y1, 1 + y2⟩, HF.out, rfl, HC.out, HG.out⟩
set_option maxHeartbeats 8000000 in
theorem flows_any (g n cap : Nat) (A : Option Addr) (w : World) (hn : n ≤ maxLen) (hc : Cur w g A n cap) :
    Calls Try.prog 46 #[.pointer (some ⟨g, 0, none⟩)] w (DrwL 87 3 7 TFlow.cells TFlow.fit g A n cap w) := by
  have HC := Lib.hid (hc.new (.cells #[] 87))
  have HLT := Lib.hid hc.lt
  clear hc
  go_enter Try.func46, Try.ntmps46
  go_wp2_with fail
  refine (below_any g n cap A 8 _ hn HC.out (by omega) (by omega)).mono ?_
  rintro e w0 ⟨y, hy0, hy1, rfl, hc0, hg0⟩
  obtain ⟨m, rfl⟩ := Int.eq_ofNat_of_zero_le hy0
  have hm : m ≤ 7 := by omega
  have HO0 := Lib.hid (dr_own (World.ownsRow_lit (e := 87) (size := 3) w #[] 0 (Nat.le_refl _) (by unfold maxLen; omega) rfl) HLT.out hg0)
  have HC0 := Lib.hid hc0
  have HG0 := Lib.hid (grown_both (grown_new w (.cells #[] 87) _) hg0)
  clear hc0 hg0
  go_wp2_with fail
  go_loopw [3, 4] (fun v i wr => ∃ (k : Nat) (l : List TFlow), k ≤ m ∧ l.length + k = m ∧ Hid (∀ x ∈ l, TFlow.fit x) ∧ i = .int .i64 k ∧ Hid (wr.ownsRow w.heap.size 87 3 v l.length (l.flatMap TFlow.cells)) ∧ Hid (Cur wr g A n cap) ∧ Hid (w.grownBy wr (some g))) (fun _ i _ => (intOf i).toNat)
  case atStart => exact ⟨m, [], Nat.le_refl _, by simp, Lib.hid (fun _ h => by cases h), rfl, HO0, HC0, HG0⟩
  case round =>
    obtain ⟨k, l, hk, hl, HU, rfl, HO, HCW, HGW⟩ := hrel
    have HS := Lib.hid HGW.out.size
    have hll : l.length ≤ 7 := by omega
    have HLL := Lib.hid hl
    clear hl
    by_cases hlt : 0 < k
    · obtain ⟨k', rfl⟩ : ∃ k', k = k' + 1 := ⟨k - 1, by omega⟩
      have hwk : IntKind.i64.wrap (((k' + 1 : Nat) : Int) - 1) = (k' : Int) := by rw [IntWalk.i64_in _ (by omega)]; omega
      go_wp2_with fail
      refine (flow_any g n cap A _ hn HCW.out).mono ?_
      rintro e w1 ⟨x, hx, rfl, hc1, hg1⟩
      have HO1 := Lib.hid (dr_own HO.out HLT.out hg1)
      have HC1 := Lib.hid hc1
      have HG1 := Lib.hid (grown_both HGW.out hg1)
      have HX := Lib.hid (show l.flatMap TFlow.cells ++ (#[.int .i64 x.f0, .int .i64 x.f1, .int .i64 x.f2] : Array Value).toList = (l ++ [x]).flatMap TFlow.cells by simp [List.flatMap_append, TFlow.cells])
      have HXB := Lib.hid (show ∀ z ∈ l ++ [x], TFlow.fit z from fun z hz => by
        simp only [List.mem_append, List.mem_singleton] at hz
        rcases hz with hz | rfl
        · exact HU.out z hz
        · exact hx)
      clear hc1 hg1 hx
      go_wp2_with (at_builtin; refine wp_app_lit rfl _ _ _ rfl w.heap.size 87 (.agg #[.int .i64 0, .int .i64 0, .int .i64 0]) 3 24 Try.underlying24 infoFlow rfl (by decide) _ _ _ rfl HO1.out #[.int .i64 x.f0, .int .i64 x.f1, .int .i64 x.f2] 1 1 _ rfl (by simp) rfl (onesFlow x) (by unfold maxLen; omega) (by omega) HG1.out.size ?_; intro v1 w2 ho2 hb2; have HO2 := Lib.hid ho2; have HB2 := Lib.hid hb2; clear ho2 hb2)
      go_roundw
      case rel => exact ⟨k', l ++ [x], by omega, by have := HLL.out; simp; omega, HXB, by go_num, Lib.hid (by rw [← HX.out]; simpa using HO2.out), Lib.hid (dr_cur_low HC1.out HLT.out HB2.out), Lib.hid (dr_low HG1.out (Nat.le_refl _) HB2.out)⟩
      case measure => simp [intOf]
    · obtain rfl : k = 0 := by omega
      go_wp2_with fail
      go_ret
      exact ⟨_, l, rfl, hll, HU.out, HO.out, HCW.out, HGW.out⟩
end Go.Proofs.Ytcankpiidjhhpaa
