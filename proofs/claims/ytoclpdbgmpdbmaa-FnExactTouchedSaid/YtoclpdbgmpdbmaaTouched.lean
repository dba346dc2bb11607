/- Touched, of the program and of the model. -/
import Derived.Test.YtoclpdbgmpdbmaaItEditsBy
import Derived.Test.YtoclpdbgmpdbmaaFm
import Derived.RangeFuncNested
import Derived.RangeFuncBound
import Derived.RangeFuncCalls
import Derived.RangeFuncLeaves
import Derived.RangeFuncBox
import Derived.Shelf.Abstract
import Derived.Shelf.RegionOpen
import Derived.WalkKit
import Derived.OwnWalkIn
import Derived.TacticsInMore
import Derived.LoopNIn
import Derived.LoopIn
import Derived.Maps.AppendAt
namespace Go.Proofs.Ytoclpdbgmpdbmaa
open Go Go.ChangeShapes Go.WideShapes Go.ChangeAt Go.RowKit Go.Lib Go.Shelf
set_option linter.unusedVariables false
set_option linter.unusedSimpArgs false
set_option maxRecDepth 100000
attribute [local go_sem] Oper.semAt_some
theorem row_tight {W : World} {base D n : Nat} {v : Value} {xs : List Int} (h : W.ownsRow base 3 1 v n (i64s xs)) (hD : W.heap[D]? = some (.deferred (some []))) :
    ∃ (A : Option Addr) (c g lo hi : Nat), v = .slice A n c ∧ Fr W lo hi 3 1 A n c (i64s xs) ∧ base ≤ lo ∧ hi ≤ W.heap.size ∧ ¬ (lo ≤ D ∧ D < hi) := by
  rcases h.2 with ⟨rfl, rfl⟩ | ⟨g, cap, cur, rfl, hg, hh, rest⟩
  · exact ⟨none, 0, 0, base, 0, rfl, ⟨h.1, fun h0 => absurd h0 (by omega)⟩, Nat.le_refl _, Nat.zero_le _, by omega⟩
  · refine ⟨_, cap, g, g, g + 1, rfl, ⟨h.1, fun _ => ⟨⟨h.1, .inr ⟨g, cap, cur, rfl, Nat.le_refl _, hh, rest⟩⟩, fun a ha => by injection ha with ha; subst ha; exact Nat.lt_succ_self _⟩⟩, hg, (Array.getElem?_eq_some_iff.1 hh).1, fun hn => ?_⟩
    obtain rfl : g = D := by omega
    rw [hh] at hD
    cases hD
def mTouched (l : List TEdit) (a : Int) : List Int := mAsd (mFm (fun x => x.f5 == a) TEdit.f1 l)
theorem mTouched_len (l : List TEdit) (a : Int) : (mTouched l a).length ≤ l.length := Nat.le_trans (mAsd_len _) fm_len
set_option maxHeartbeats 16000000 in
theorem touched_in (m : Nat) (hm : 3 ≤ m) (xs : List TEdit) (A : Option Addr) (n c lo hi : Nat) (a1 : Int) (w : World) (hr : Rd w lo hi 6 A n (cEdit xs)) (hhi : hi ≤ w.heap.size) (hn : n ≤ 1048576) :
    CallsIn Fence.wide m Try.prog 24 #[.slice A n c, .int .i64 a1] w fun e w' => ∃ (A' : Option Addr) (c' : Nat), e = .returned (.slice A' (mTouched xs a1).length c') ∧ Fr w' w.heap.size w'.heap.size 3 1 A' (mTouched xs a1).length c' (i64s (mTouched xs a1)) ∧ Below w.heap.size w w' := by
  have h1 : 1 ≤ m := by omega
  have HR := Lib.hid hr
  clear hr
  refine callsIn_of_wp_marks Try.func24 rfl trivial ?_ rfl
  simp only [Try.ntmps24, List.size_toArray, List.length_cons, List.length_nil, Nat.reduceAdd, Nat.reduceSub, Array.replicate_succ, Array.replicate_zero, List.push_toArray, List.append_toArray, List.nil_append, List.cons_append]
  gi_wp2
  refine ⟨trivial, (callsIn_wide.2 (makek_EditsBy A n c a1 _)).mono ?_⟩
  rintro e w1 ⟨Bl, Bk, B, rfl, kl, kk, kb, hb, gl, gk, gb⟩
  simp only [World.size_alloc] at gl gk gb
  have hbx : Boxed w1 (w.heap.size + 1) 24 (.slice (some ⟨w.heap.size, 0, none⟩) 0 0) := BoxAt.new (by simpa using box_new (w.alloc (.cells #[] 3)) 24 #[.slice (some ⟨w.heap.size, 0, none⟩) 0 0] : BoxAt ((w.alloc (.cells #[] 3)).alloc (.cells #[.slice (some ⟨w.heap.size, 0, none⟩) 0 0] 24)) (w.heap.size + 1) 24 #[.slice (some ⟨w.heap.size, 0, none⟩) 0 0]) hb
  have ho1 : w1.ownsRow w.heap.size 3 1 (.slice (some ⟨w.heap.size, 0, none⟩) 0 0) 0 [] := own_newer ((World.ownsRow_lit w #[] 0 (Nat.le_refl _) (by unfold maxLen; omega) rfl).alloc _) hb
  have hB0 : Below w.heap.size w w1 := below_trans (((Below.refl w.heap.size w).alloc (Nat.le_refl _) (.cells #[] 3)).alloc (by simp) (.cells #[.slice (some ⟨w.heap.size, 0, none⟩) 0 0] 24)) hb (by simp)
  have hS1 : ∀ k ∈ [Bl, Bk, B], k < w1.heap.size ∧ w.heap.size + 2 ≤ k := fun k hk => by
    have := kl.lt; have := kk.lt; have := kb.lt
    simp only [List.mem_cons, List.not_mem_nil, or_false] at hk
    rcases hk with rfl | rfl | rfl <;> omega
  clear hb
  gi_wp2
  refine wpIn_rangeFunc_ownH rfl h1 (gf := 174) (lb := #[.pointer (some ⟨Bl, 0, none⟩), .pointer (some ⟨Bk, 0, none⟩)]) rfl trivial (enters_of Try.func174 (by kernel_rfl) rfl)
    (stopk_EditsBy (m - 1) (by omega) w.heap.size xs A n c lo hi Bl Bk B a1 w1 kl kk kb (HR.out.new hB0) hhi hn hB0.size) (fun h k => KpB.trans h k) (kpb_b hB0.size (fun k hk => (hS1 k hk).1)) (Below.refl _ _) (fun _ => rfl)
    (fun pre W => (∃ v, Boxed W (w.heap.size + 1) 24 v ∧ W.ownsRow w.heap.size 3 1 v pre.length (i64s (pre.map TEdit.f1)) ∧ (∀ b, v.ownBlock = some b → b ∉ [Bl, Bk, B])) ∧ (Below w.heap.size w W ∧ w1.heap.size ≤ W.heap.size))
    (fun _ _ _ => False)
    (OwnFrom.and (Own.from (holdsRow_own w.heap.size (w.heap.size + 1) 24 3 1 (fun pre : List TEdit => pre.length) (fun pre => i64s (pre.map TEdit.f1)) (fun _ v => ∀ b, v.ownBlock = some b → b ∉ [Bl, Bk, B])) _) (OwnFrom.and (ownFrom_below (Nat.le_refl _) hB0.size) (fun _ _ _ _ hs hg _ => Nat.le_trans hs hg.size)))
    (fun _ _ _ _ _ hs _ _ => hs)
    ⟨⟨_, hbx, ho1, fun b hb h => by
      have := (hS1 b h).2
      simp only [Value.ownBlock, Option.some.injEq] at hb
      omega⟩, hB0, Nat.le_refl _⟩
    (fun x a' W => ∃ Bx, w1.heap.size ≤ Bx ∧ BoxAt W Bx 107 #[.int .i64 x.f0, .int .i64 x.f1, .int .i64 x.f2, .int .i64 x.f3, .int .i64 x.f4, .int .i64 x.f5] ∧ a' = { tmps := #[.slice A n c, .int .i64 a1, undef, undef, .slice none 0 0, .pointer (some ⟨w.heap.size + 1, 0, none⟩), .pointer (some ⟨Bx, 0, none⟩), .slice (some ⟨w.heap.size, 0, none⟩) 0 0, .slice A n c, .int .i64 a1, .func (.func 174) #[] #[.pointer (some ⟨Bl, 0, none⟩), .pointer (some ⟨Bk, 0, none⟩)], .agg #[.int .i64 x.f0, .int .i64 x.f1, .int .i64 x.f2, .int .i64 x.f3, .int .i64 x.f4, .int .i64 x.f5], undef, undef, undef, undef, undef, undef, undef], defers := [] })
    (fun x a' _ X Y row hs hg hr => by obtain ⟨Bx, h1, h2, h3⟩ := hs; exact ⟨Bx, h1, box_far_row h2 hg (fun r e => (hr r e).2), h3⟩)
    ?assign ?body ?done ?stop
  case assign =>
    rintro l pre x W K ⟨⟨v, hv, hrow, hG⟩, hB, hsz⟩ hK
    gi_wp2
    exact hK _ _ ((KeepsOthers.alloc _ _).from _) ((KpB.refl w.heap.size [Bl, Bk, B] W).new hB.size (fun k hk => Nat.lt_of_lt_of_le (hS1 k hk).1 hsz) ((Below.refl _ W).alloc (Nat.le_refl _) _)) ⟨⟨v, hv.alloc _, hrow.alloc _, hG⟩, hB.alloc hB.size _, by simp; omega⟩ ⟨W.heap.size, hsz, box_new W 107 _, rfl⟩
  case body =>
    rintro l pre x a' W hl ⟨r, hr'⟩ ⟨⟨v, hv, hrow, hG⟩, hB, hsz⟩ ⟨Bx, hBx, hX, rfl⟩ hlt
    have hc := hv.cell
    have x0 := hX.at_ (j := 0) rfl
    have x1 := hX.at_ (j := 1) rfl
    have x2 := hX.at_ (j := 2) rfl
    have x3 := hX.at_ (j := 3) rfl
    have x4 := hX.at_ (j := 4) rfl
    have x5 := hX.at_ (j := 5) rfl
    gi_wp2_with (gi_at_builtin; refine wpListIn_app _ rfl _ _ 24 rfl w.heap.size 3 (.int .i64 0) 1 8 Try.underlying24 info_int rfl (by decide) _ _ _ rfl (hrow.alloc _) W.heap.size (W.heap.size + 1) (some ⟨W.heap.size, 0, none⟩) 1 1 [.int .i64 x.f1] rfl (rd_lit W #[.int .i64 x.f1] 3 1 1 rfl) (one_int x.f1) (by unfold maxLen; omega) (by omega) (by have := hB.size; simp; omega) ?_; intro v' w2 hown' hgrow hob; obtain ⟨g', cap', rfl⟩ := ownsRow_succ hown'; obtain ⟨hv1, hv2, hr2, hk2, hb2⟩ := hv.appended (by decide) hrow hB.size (Nat.le_succ _) hown' hgrow; have hc1 := hv1.cell; have hf1 := hv1.frozen)
    refine ⟨hk2.from _, ⟨hb2, fun k hk => ?_⟩, ⟨⟨_, hv2, by simpa [i64s] using hr2, fun b hb h => ?_⟩, hB.trans hb2, ?_⟩⟩
    · have q := hS1 k hk
      refine (Below.heap_setCell w2 ⟨w.heap.size + 1, 0, none⟩ _ k (by simp; omega)).trans ((hgrow.block k (by simp; omega) (fun e => hG k e.symm hk)).trans (Below.heap_alloc W _ k (by omega)))
    · have q := hS1 b h
      rcases hob with e | e
      · exact hG b (e.symm.trans hb) h
      · rw [e] at hb
        simp at hb
        omega
    · have := hgrow.size
      simp [World.setCell] at this ⊢
      omega
  case done =>
    rintro D ys W hD rfl ⟨⟨v, hv, hrow, hG⟩, hB, hsz⟩ hK
    have hc := hv.cell
    have hlen : (xs.filter fun x => x.f5 == a1).length ≤ 1048576 := by
      have := List.length_filter_le (fun x : TEdit => x.f5 == a1) xs
      have := rd_len TEdit.len HR.out (by decide)
      omega
    obtain ⟨A', c', g, lo', hi', rfl, hF, hlo, hhi', hnD⟩ := row_tight hrow hK
    have hm : mTouched xs a1 = mAsd ((xs.filter fun x => x.f5 == a1).map TEdit.f1) := rfl
    have CA := ascending_any ((xs.filter fun x => x.f5 == a1).map TEdit.f1) A' _ c' lo' hi' W (by omega) hF
    rw [← hm] at CA
    replace CA := Lib.hid CA
    replace hF := Lib.hid hF
    gi_wp2
    refine ⟨trivial, (callsIn_wide.2 CA.out).mono ?_⟩
    rintro e w3 ⟨rfl, hF3, hc3⟩
    have hKD : w3.heap[D]? = some (.deferred (some [])) := (hc3.block D (Array.getElem?_eq_some_iff.1 hK).1 hnD).trans hK
    gi_wp2
    refine ⟨by simp, .inl ⟨_, _, rfl, run_takeDeferred hKD, ?_⟩⟩
    refine ⟨_, results_tmp rfl _ _ _, A', c', rfl, ?_, ?_⟩
    · refine (hF3.keep fun b b1 b2 b3 => World.putObj_heap_other (fun e => hnD (by omega))).mono hlo ?_
      have := hc3.size
      simp
      omega
    · exact (hB.trans (hc3.below (.inl hlo) hB.size)).trans (belowK_b (w := w) (Nat.le_refl _) w3 D _ _ (by have := hB0.size; omega) hKD rfl rfl)
  case stop =>
    rintro D c pre W _ _ h _
    exact h.elim
end Go.Proofs.Ytoclpdbgmpdbmaa
