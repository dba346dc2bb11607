/- impl.keep at slices of Flow, with the conditions of FlowsOf. -/
import Derived.Test.YtcankpiidjhhpaaTFlow
import Derived.Test.YtcankpiidjhhpaaFun
import Derived.LoopN
namespace Go.Proofs.Ytcankpiidjhhpaa.kFlowsOf
open Go Go.ChangeShapes Go.WideShapes Go.ChangeAt Go.RowKit Go.Lib
set_option linter.unusedVariables false
set_option linter.unusedSimpArgs false
set_option maxRecDepth 100000
theorem info : (Try.prog.info? 87).map (fun i => (i.zero, i.size, i.bytes)) = some (some (.agg #[.int .i64 0, .int .i64 0, .int .i64 0]), 3, 24) := by kernel_rfl
theorem ones (x : TFlow) : ∀ u ∈ (#[.int .i64 x.f0, .int .i64 x.f1, .int .i64 x.f2] : Array Value).toList, u.oneCell' = true := by
  intro u hu
  simp only [List.mem_cons, List.not_mem_nil, or_false] at hu
  rcases hu with rfl | rfl | rfl <;> rfl

set_option maxHeartbeats 4000000 in
theorem fails_0 (lb0 : Array Value) (x : TFlow) (b : Bool) (bx : Nat) (W : World) (hx : BoxAt W bx 87 #[.int .i64 x.f0, .int .i64 x.f1, .int .i64 x.f2]) (hcall : Calls Try.prog 64 (#[.agg #[.int .i64 x.f0, .int .i64 x.f1, .int .i64 x.f2]] ++ lb0) W (Says (.bool b) W)) :
    Calls Try.prog 95 #[.func (.func 64) #[] lb0, .pointer (some ⟨bx, 0, none⟩)] W (Says (.bool (!b)) W) := by
  have c0 : W.cell? ⟨bx, 0, none⟩ = _ := hx.at_ rfl
  have c1 : W.cell? ⟨bx, 1, none⟩ = _ := hx.at_ rfl
  have c2 : W.cell? ⟨bx, 2, none⟩ = _ := hx.at_ rfl
  clear hx
  cases b
  all_goals
    go_enter Try.func95, Try.ntmps95
    go_wp2_with (go_at_call 64; refine hcall.mono ?_; rintro e w1 ⟨rfl, hb1⟩; have HB1 := Lib.hid hb1; clear hb1)
    go_ret
    exact ⟨rfl, HB1.out⟩

set_option maxHeartbeats 8000000 in
theorem idx (p0 : TFlow → Bool) (lb0 : Array Value) (x : TFlow) (bx bc : Nat) (W : World) (hx : BoxAt W bx 87 #[.int .i64 x.f0, .int .i64 x.f1, .int .i64 x.f2]) (hc : BoxAt W bc 88 #[.func (.func 64) #[] lb0]) (hp0 : ∀ W', Below W.heap.size W W' → Calls Try.prog 64 (#[.agg #[.int .i64 x.f0, .int .i64 x.f1, .int .i64 x.f2]] ++ lb0) W' (Says (.bool (p0 x)) W')) :
    Calls Try.prog 113 #[.slice (some ⟨bc, 0, none⟩) 1 1, .func (.func 95) #[] #[.pointer (some ⟨bx, 0, none⟩)]] W (Says (.int .i64 (if p0 x = true then (-1) else 0)) W) := by
  have HX := Lib.hid hx
  have HCB := Lib.hid hc
  have HP0 := Lib.hid hp0
  clear hp0
  clear hx hc
  by_cases h0 : p0 x = true
  · skip
    have HE := Lib.hid (show (if p0 x = true then (-1) else 0) = (-1 : Int) by simp [h0])
    go_enter Try.func113, Try.ntmps113
    go_wp2_with fail
    refine wp_loop_rounds 2 ?_
    have HB0 := Lib.hid (Below.refl W.heap.size W)
    have d0 : W.cell? ⟨bc, 0, none⟩ = some (.func (.func 64) #[] lb0) := (HCB.out.new HB0.out).at_ rfl
    have q0 := fails_0 lb0 x _ bx W (HX.out.new HB0.out) (HP0.out W HB0.out)
    rw [h0] at q0
    have Q0 := Lib.hid q0
    clear q0
    rw [rounds_succ]
    go_wp2_with (go_at_call 95; refine Q0.out.mono ?_; rintro e w1 ⟨rfl, hb⟩; have HB1 := Lib.hid (below_trans HB0.out hb (Nat.le_refl _)); clear hb)
    rw [rounds_succ]
    go_wp2_with fail
    go_ret
    exact ⟨by first | rfl | (rw [HE.out]; rfl), HB1.out⟩
  · have h0 : p0 x = false := by simpa using h0
    have HE := Lib.hid (show (if p0 x = true then (-1) else 0) = (0 : Int) by simp [h0])
    go_enter Try.func113, Try.ntmps113
    go_wp2_with fail
    refine wp_loop_rounds 2 ?_
    have HB0 := Lib.hid (Below.refl W.heap.size W)
    have d0 : W.cell? ⟨bc, 0, none⟩ = some (.func (.func 64) #[] lb0) := (HCB.out.new HB0.out).at_ rfl
    have q0 := fails_0 lb0 x _ bx W (HX.out.new HB0.out) (HP0.out W HB0.out)
    rw [h0] at q0
    have Q0 := Lib.hid q0
    clear q0
    rw [rounds_succ]
    go_wp2_with (go_at_call 95; refine Q0.out.mono ?_; rintro e w1 ⟨rfl, hb⟩; have HB1 := Lib.hid (below_trans HB0.out hb (Nat.le_refl _)); clear hb)
    go_ret
    exact ⟨by first | rfl | (rw [HE.out]; rfl), HB1.out⟩
set_option maxHeartbeats 4000000 in
theorem conds (p0 : TFlow → Bool) (lb0 : Array Value) (x : TFlow) (bx bc : Nat) (W : World) (hx : BoxAt W bx 87 #[.int .i64 x.f0, .int .i64 x.f1, .int .i64 x.f2]) (hc : BoxAt W bc 88 #[.func (.func 64) #[] lb0]) (hp0 : ∀ W', Below W.heap.size W W' → Calls Try.prog 64 (#[.agg #[.int .i64 x.f0, .int .i64 x.f1, .int .i64 x.f2]] ++ lb0) W' (Says (.bool (p0 x)) W')) :
    Calls Try.prog 96 #[.slice (some ⟨bc, 0, none⟩) 1 1, .func (.func 95) #[] #[.pointer (some ⟨bx, 0, none⟩)]] W (Says (.bool (!(p0 x))) W) := by
  have HC := idx p0 lb0 x bx bc W hx hc hp0
  have hv : ((if p0 x = true then (-1) else 0) = (-1 : Int) ∧ (!(p0 x)) = false) ∨ (0 ≤ (if p0 x = true then (-1) else 0) ∧ (!(p0 x)) = true) := by
    cases p0 x <;> simp
  generalize (if p0 x = true then (-1) else 0) = r at HC hv
  generalize (!(p0 x)) = b at hv ⊢
  clear hp0 hx hc
  rcases hv with ⟨hr, hb⟩ | ⟨hr, hb⟩
  · rw [hr] at HC
    rw [hb]
    clear hr hb
    go_enter Try.func96, Try.ntmps96
    go_wp2_with fail
    refine HC.mono ?_
    rintro e w1 ⟨rfl, hb1⟩
    have HB1 := Lib.hid hb1
    clear hb1
    go_wp2_with fail
    go_ret
    exact ⟨rfl, HB1.out⟩
  · rw [hb]
    have hd : decide (r ≥ 0) = true := by simp; omega
    clear hb
    go_enter Try.func96, Try.ntmps96
    go_wp2_with fail
    refine HC.mono ?_
    rintro e w1 ⟨rfl, hb1⟩
    have HB1 := Lib.hid hb1
    clear hb1
    go_wp2_with fail
    go_ret
    exact ⟨rfl, HB1.out⟩

theorem filter_snoc (p : TFlow → Bool) {l : List TFlow} {k : Nat} {x : TFlow} (h : l[k]? = some x) : (l.take (k + 1)).filter p = if p x = true then (l.take k).filter p ++ [x] else (l.take k).filter p := by
  rw [List.take_add_one, h, Option.toList_some, List.filter_append]
  by_cases e : p x = true
  · rw [if_pos e, List.filter_cons, if_pos e]; rfl
  · rw [if_neg e, List.filter_cons, if_neg e]; simp
set_option maxHeartbeats 8000000 in
theorem keep (p0 : TFlow → Bool) (lb0 : Array Value) (l : List TFlow) (A : Option Addr) (n c lo hi bc : Nat) (w : World) (hn : n ≤ 1048576) (hr : Rd w lo hi 3 A n (cFlow l)) (hcb : BoxAt w bc 88 #[.func (.func 64) #[] lb0]) (hp0 : PredB Try.prog 64 lb0 (fun x : TFlow => .agg #[.int .i64 x.f0, .int .i64 x.f1, .int .i64 x.f2]) p0 l w) :
    Calls Try.prog 63 #[.slice A n c, .slice (some ⟨bc, 0, none⟩) 1 1] w (MakesO 87 3 (l.filter fun x => p0 x).length (cFlow (l.filter fun x => p0 x)) w) := by
  have hmf : ∀ (fn : Fn) (first cap : Array Value) (w : World), (Instr.makeFunc fn first cap).run Try.prog w = .ok (.func fn first cap) w := fun _ _ _ _ => rfl
  have HL := Lib.hid (rd_len TFlow.len hr (by decide))
  have HR := Lib.hid hr
  have HCB := Lib.hid hcb
  have HQ0 := Lib.hid hp0
  clear hp0
  clear hr hcb
  generalize hP : (fun x : TFlow => p0 x) = P
  have HP := Lib.hid hP
  clear hP
  go_enter Try.func63, Try.ntmps63
  go_wp2_with fail
  go_loopg [5, 7, 8, 12] n (fun gg v _ _ i wr => ∃ k : Nat, k ≤ n ∧ n - k ≤ gg ∧ i = .int .i64 k ∧ Hid (wr.ownsRow w.heap.size 87 3 v ((l.take k).filter P).length (cFlow ((l.take k).filter P))) ∧ Hid (Below w.heap.size w wr))
  case atStart => exact ⟨0, Nat.zero_le _, by omega, rfl, Lib.hid (World.ownsRow_lit w #[] 0 (Nat.le_refl _) (by unfold maxLen; omega) rfl), Lib.hid ((Below.refl _ _).alloc (Nat.le_refl _) _)⟩
  case round =>
    obtain ⟨k, hk, hg, rfl, HO, HB⟩ := hrel
    have HS := Lib.hid HB.out.size
    by_cases hlt : k < n
    · obtain ⟨b, off, x, rfl, _, _, hz, hc⟩ := rd_elem TFlow.len (HR.out.new HB.out) HL.out hlt
      have c0 : wr.cell? ⟨b, off + k * 3, none⟩ = _ := hc 0 _ rfl
      have c1 := hc 1 _ rfl
      have c2 := hc 2 _ rfl
      have HZ := Lib.hid hz
      have HE := Lib.hid (filter_snoc P hz)
      have HN := Lib.hid (Nat.le_trans (List.length_filter_le P (l.take k)) (List.length_take_le _ _))
      have HPx := Lib.hid (show (p0 x) = P x by rw [← HP.out])
      have q := conds p0 lb0 x wr.heap.size bc (wr.alloc (.cells #[.int .i64 x.f0, .int .i64 x.f1, .int .i64 x.f2] 87)) (box_new _ _ _) ((HCB.out.new HB.out).alloc_ _) (fun W' hb => HQ0.out W' x (mem_of_get HZ.out) (below_trans (HB.out.alloc HS.out _) hb (by have := HS.out; simp <;> omega)))
      rw [HPx.out] at q
      have Q := Lib.hid q
      clear hz hc q
      by_cases e : P x = true
      · have H2 := Lib.hid (by have := HE.out; rwa [if_pos e] at this)
        have Q2 := Lib.hid (by have := Q.out; rwa [e] at this)
        clear HE Q e
        go_wp2_with fail
        refine Q2.out.mono ?_
        rintro e w1 ⟨rfl, hb1⟩
        have HB1 := Lib.hid (below_trans (HB.out.alloc HS.out _) hb1 (by have := HS.out; simp <;> omega))
        have HO1 := Lib.hid (own_newer (HO.out.alloc _) hb1)
        have HX1 := (box_new wr 87 #[.int .i64 x.f0, .int .i64 x.f1, .int .i64 x.f2]).new hb1
        have hs1 := hb1.size
        simp at hs1
        have x0 : w1.cell? ⟨wr.heap.size, 0, none⟩ = _ := HX1.at_ rfl
        have x1 : w1.cell? ⟨wr.heap.size, 1, none⟩ = _ := HX1.at_ rfl
        have x2 : w1.cell? ⟨wr.heap.size, 2, none⟩ = _ := HX1.at_ rfl
        clear hb1 HX1
        go_wp2_with (at_builtin; refine wp_app_lit rfl _ _ _ rfl w.heap.size 87 (.agg #[.int .i64 0, .int .i64 0, .int .i64 0]) 3 24 Try.underlying24 info rfl (by decide) _ _ _ rfl HO1.out #[.int .i64 x.f0, .int .i64 x.f1, .int .i64 x.f2] 1 1 _ rfl (by simp) rfl (ones x) (by have := HN.out; unfold maxLen; omega) (by have := HN.out; omega) (by have := HS.out; omega) ?_; intro v1 w2 ho1 hb1)
        have HO2 := Lib.hid (show w2.ownsRow w.heap.size 87 3 v1 ((l.take (k + 1)).filter P).length (cFlow ((l.take (k + 1)).filter P)) by
          rw [H2.out]
          simpa [cFlow, List.flatMap_append, TFlow.cells] using ho1)
        have HB2 := Lib.hid (HB1.out.trans hb1)
        clear ho1 hb1
        go_wp2_with fail
        go_roundg (n - (k + 1))
        case measure => omega
        case rel => exact ⟨k + 1, by omega, by omega, by go_num, HO2, HB2⟩
      · have H2 := Lib.hid (by have := HE.out; rwa [if_neg e] at this)
        have e' : P x = false := by simpa using e
        have Q2 := Lib.hid (by have := Q.out; rwa [e'] at this)
        clear HE Q e e'
        go_wp2_with fail
        refine Q2.out.mono ?_
        rintro e w1 ⟨rfl, hb1⟩
        have HB1 := Lib.hid (below_trans (HB.out.alloc HS.out _) hb1 (by have := HS.out; simp <;> omega))
        have HO1 := Lib.hid (own_newer (HO.out.alloc _) hb1)
        clear hb1
        go_wp2_with fail
        go_roundg (n - (k + 1))
        case measure => omega
        case rel => exact ⟨k + 1, by omega, by omega, by go_num, by rw [H2.out]; exact HO1, HB1⟩
    · obtain rfl : k = n := by omega
      have HO2 := Lib.hid (show wr.ownsRow w.heap.size _ _ _ (l.filter P).length (cFlow (l.filter P)) by have := HO.out; rwa [List.take_of_length_le (by rw [HL.out]; omega)] at this)
      clear HO
      go_wp2_with fail
      go_ret
      exact ⟨_, rfl, HO2.out, HB.out⟩
end Go.Proofs.Ytcankpiidjhhpaa.kFlowsOf
