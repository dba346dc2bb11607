/- The program's replay, at any iterator that yields these edits. No condition but the length. -/
import Derived.Test.YtejcioenoofjlaaGreatAplD
import Derived.Test.YtejcioenoofjlaaGreatVal
import Derived.Test.YtejcioenoofjlaaGreatItB
import Derived.RangeFuncNested
import Derived.RangeFuncBound
import Derived.RangeFuncCalls
import Derived.RangeFuncLeaves
import Derived.RangeFuncBox
import Derived.Shelf.Abstract
import Derived.Shelf.RegionOpen
import Derived.WalkKit
import Derived.OwnWalkIn
import Derived.TacticsInMore
import Derived.LoopNIn
import Derived.LoopIn
import Derived.Maps.AppendAt
namespace Go.Proofs.YtejcioenoofjlaaGreat
open Go Go.ChangeShapes Go.WideShapes Go.ChangeAt Go.RowKit Go.Lib Go.Shelf
set_option linter.unusedVariables false
set_option linter.unusedSimpArgs false
set_option maxRecDepth 100000
attribute [local go_sem] Oper.semAt_some
theorem frt_own {β : Type} (n₀ B : Nat) (t : TypeId) (k : β → Nat) (f : β → List Value) : Own (fun s W => ∃ A c, Boxed W B t (.slice A (k s) c) ∧ (0 < k s → W.ownsRow n₀ 42 5 (.slice A (k s) c) (k s) (f s))) := by
  rintro s P Y row ⟨A, c, hv, hr⟩ hg hrow
  refine ⟨A, c, hv.kept hg (fun e' => ?_), fun h0 => ?_⟩
  · obtain ⟨o, ho, hc⟩ := hrow B e'.symm
    rw [show P.heap[B]? = _ from hv] at ho; cases ho; cases hc
  · have h := hr h0
    refine h.kept hg ?_
    rcases h.2 with ⟨h1, _⟩ | ⟨g, cap, cur, h1, _, hgb, _⟩
    · exact .inl (by rw [h1]; rfl)
    · refine .inr fun e' => ?_
      obtain ⟨o, ho, hc⟩ := hrow g (by rw [h1] at e'; simpa [Value.ownBlock] using e'.symm)
      rw [hgb] at ho; cases ho; cases hc
theorem frt_fr {W : World} {n₀ n c : Nat} {A : Option Addr} {xs : List TNode} (hl : xs.length = n) (h : 0 < n → W.ownsRow n₀ 42 5 (.slice A n c) n (cNode xs)) : Fr W n₀ W.heap.size 42 5 A n c (cNode xs) := by
  refine ⟨by rw [flat_len TNode.len, hl], fun h0 => ⟨h h0, fun a ha => ?_⟩⟩
  rcases (h h0).2 with ⟨_, hz⟩ | ⟨g, cap, cur, hv, hg, hh, _⟩
  · omega
  · injection hv with hv _ _
    rw [hv] at ha
    injection ha with ha
    subst ha
    exact (Array.getElem?_eq_some_iff.1 hh).1
theorem row_tightN {W : World} {base D n c : Nat} {A : Option Addr} {xs : List TNode} (hl : xs.length = n) (h : 0 < n → W.ownsRow base 42 5 (.slice A n c) n (cNode xs)) (hD : W.heap[D]? = some (.deferred (some []))) :
    ∃ (lo hi : Nat), Fr W lo hi 42 5 A n c (cNode xs) ∧ base ≤ lo ∧ hi ≤ W.heap.size ∧ ¬ (lo ≤ D ∧ D < hi) := by
  rcases Nat.eq_zero_or_pos n with h0 | h0
  · exact ⟨base, 0, ⟨by rw [flat_len TNode.len, hl], fun h1 => absurd h1 (by omega)⟩, Nat.le_refl _, Nat.zero_le _, by omega⟩
  · have ho := h h0
    rcases ho.2 with ⟨_, hz⟩ | ⟨g, cap, cur, hv, hg, hh, rest⟩
    · omega
    · have hA : A = some ⟨g, 0, none⟩ := by injection hv
      refine ⟨g, g + 1, ⟨ho.1, fun _ => ⟨⟨ho.1, .inr ⟨g, cap, cur, hv, Nat.le_refl _, hh, rest⟩⟩, fun a ha => by rw [hA] at ha; injection ha with ha; subst ha; exact Nat.lt_succ_self _⟩⟩, hg, (Array.getElem?_eq_some_iff.1 hh).1, fun hn => ?_⟩
      obtain rfl : g = D := by omega
      rw [hh] at hD
      cases hD
set_option maxHeartbeats 16000000 in
theorem replay_in (m : Nat) (hm : 3 ≤ m) (gf : Nat) (lb : Array Value) (ys : List TEdit) (N : Nat) (l : List TNode) (A : Option Addr) (n c lo hi : Nat) (w : World) (hn : n ≤ 1048576) (hr : Rd w lo hi 5 A n (cNode l)) (hok : Hid (cNodeOk l))
    (eg : ∀ args w, (callFunc gf args).run Tryz.prog w = .ok (.enter gf args) w) (hF : Fence.wide.fn gf)
    (hs : ∀ W, Below w.heap.size w W → SeqStopsK Fence.wide (m - 1) Tryz.prog gf lb (fun x : TEdit => #[Value.agg #[.int .i64 x.f0, .int .i64 x.f1, .int .i64 x.f2, .int .i64 x.f3, .int .i64 x.f4, .int .i64 x.f5]]) (Below w.heap.size) (fun zs => zs = ys) (fun _ => True) N W) :
    CallsIn Fence.wide m Tryz.prog 33 #[.slice A n c, .func (.func gf) #[] lb] w fun e w' => ∃ (A' : Option Addr) (c' : Nat), e = .returned (.slice A' (mRun l ys).length c') ∧ Fr w' w.heap.size w'.heap.size 42 5 A' (mRun l ys).length c' (cNode (mRun l ys)) ∧ Below w.heap.size w w' := by
  have h1 : 1 ≤ m := by omega
  have HR := Lib.hid hr
  have HLn := Lib.hid (rd_len TNode.len hr (by decide))
  clear hr
  refine callsIn_of_wp_marks Tryz.func33 rfl trivial ?_ rfl
  simp only [Tryz.ntmps33, List.size_toArray, List.length_cons, List.length_nil, Nat.reduceAdd, Nat.reduceSub, Array.replicate_succ, Array.replicate_zero, List.push_toArray, List.append_toArray, List.nil_append, List.cons_append]
  gi_wp2
  refine ⟨trivial, (callsIn_wide.2 (clone_Node l A n c lo hi _ hn HR.out)).mono ?_⟩
  rintro e w1 ⟨v, rfl, ho, hb⟩
  obtain ⟨A1, c1, rfl, _⟩ := fr_of_own ho
  have hB0 : Below w.heap.size w w1 := hb
  have hbx : Boxed (w1.alloc (.cells #[.slice A1 n c1] 28)) w1.heap.size 28 (.slice A1 n c1) := Boxed.new w1 28 (.slice A1 n c1)
  have hB1 : Below w.heap.size w (w1.alloc (.cells #[.slice A1 n c1] 28)) := hB0.alloc hB0.size _
  have ho1 : (w1.alloc (.cells #[.slice A1 n c1] 28)).ownsRow w.heap.size 42 5 (.slice A1 n c1) n (cNode l) := ho.alloc _
  clear hb
  gi_wp2
  refine wpIn_rangeFunc_ownH rfl h1 (gf := gf) (lb := lb) rfl hF eg
    (hs _ hB1) (fun h k => h.trans k) (belowK_b hB1.size) (Below.refl _ _) (fun _ => rfl)
    (fun pre W => (∃ A' c', Boxed W w1.heap.size 28 (.slice A' (mRun l pre).length c') ∧ (0 < (mRun l pre).length → W.ownsRow w.heap.size 42 5 (.slice A' (mRun l pre).length c') (mRun l pre).length (cNode (mRun l pre)))) ∧ (Below w.heap.size w W ∧ w1.heap.size + 1 ≤ W.heap.size))
    (fun _ _ _ => False)
    (OwnFrom.and (Own.from (frt_own w.heap.size w1.heap.size 28 (fun pre : List TEdit => (mRun l pre).length) (fun pre => cNode (mRun l pre))) _) (OwnFrom.and (ownFrom_below (Nat.le_refl _) hB1.size) (fun _ _ _ _ hs hg _ => Nat.le_trans hs hg.size)))
    (fun _ _ _ _ _ hs _ _ => hs)
    ⟨⟨A1, c1, by rw [show (mRun l []).length = n from HLn.out]; exact hbx, fun _ => by rw [show (mRun l []).length = n from HLn.out]; exact ho1⟩, hB1, by simp⟩
    (fun x a' W => ∃ Bx, w1.heap.size + 1 ≤ Bx ∧ BoxAt W Bx 47 #[.int .i64 x.f0, .int .i64 x.f1, .int .i64 x.f2, .int .i64 x.f3, .int .i64 x.f4, .int .i64 x.f5] ∧ a' = { tmps := #[.slice A n c, .func (.func gf) #[] lb, undef, undef, .slice none 0 0, .pointer (some ⟨w1.heap.size, 0, none⟩), .pointer (some ⟨Bx, 0, none⟩), undef, undef, .slice A n c, .slice A1 n c1, .func (.func gf) #[] lb, .agg #[.int .i64 x.f0, .int .i64 x.f1, .int .i64 x.f2, .int .i64 x.f3, .int .i64 x.f4, .int .i64 x.f5], undef, undef, undef, undef, undef, undef, undef, undef, undef], defers := [] })
    (fun x a' _ X Y row hs hg hr => by obtain ⟨Bx, h1, h2, h3⟩ := hs; exact ⟨Bx, h1, box_far_row h2 hg (fun r e => (hr r e).2), h3⟩)
    ?assign ?body ?done ?stop
  case assign =>
    rintro ll pre x W K ⟨⟨A', c', hv, hrow⟩, hB, hsz⟩ hK
    gi_wp2
    exact hK _ _ ((KeepsOthers.alloc _ _).from _) ((Below.refl _ W).alloc hB.size _) ⟨⟨A', c', hv.alloc _, fun h0 => (hrow h0).alloc _⟩, hB.alloc hB.size _, by simp; omega⟩ ⟨W.heap.size, hsz, box_new W 47 _, rfl⟩
  case body =>
    rintro ll pre x a' W hl ⟨r, hr'⟩ ⟨⟨A', c', hv, hrow⟩, hB, hsz⟩ ⟨Bx, hBx, hX, rfl⟩ hlt
    have hc := hv.cell
    have hfz := hv.frozen
    have x0 := hX.at_ (j := 0) rfl
    have x1 := hX.at_ (j := 1) rfl
    have x2 := hX.at_ (j := 2) rfl
    have x3 := hX.at_ (j := 3) rfl
    have x4 := hX.at_ (j := 4) rfl
    have x5 := hX.at_ (j := 5) rfl
    have hFr := frt_fr rfl hrow
    have hfit : Hid (cNodeOk (mRun l pre)) := Lib.hid (run_fits pre hok.out)
    have hlen : (mRun l pre).length ≤ 1048576 := run_le pre hok.out (by omega) (by rw [HLn.out]; exact hn)
    have CE := impl_edited x (mRun l pre) A' (mRun l pre).length c' w.heap.size W.heap.size W hlen hFr.rd hfit
    have hla := run_last l pre x
    have hbw := hv.lt
    cases hq : mEdited (mRun l pre) x with
    | none =>
      have hm2 : mRun l (pre ++ [x]) = mRun l pre := by rw [hla]; unfold mApply; rw [hq]; rfl
      replace CE := Lib.hid (apply_none CE hq)
      clear hq hla hFr
      gi_wp2
      refine ⟨trivial, fun h => (by simp [Fence.wide] at h), CallsIn.mono (CallsIn.inRound ll (callsIn_wide.2 CE.out)) ?_⟩
      rintro e w2 ⟨rfl, hb2⟩
      gi_wp2
      refine ⟨(KeepsOthers.of_grownBy (grown_of_below hb2) (fun j o h => by cases h)).from _, hb2.mono hB.size, ⟨A', c', ?_, ?_⟩, hB.trans (hb2.mono hB.size), Nat.le_trans hsz hb2.size⟩
      · rw [hm2]; exact (hb2.block _ hbw).trans hv
      · rw [hm2]; exact fun h0 => own_newer (hrow h0) hb2
    | some q =>
      have hm2 : mRun l (pre ++ [x]) = q := by rw [hla]; unfold mApply; rw [hq]; rfl
      replace CE := Lib.hid (apply_some W.heap.size (Nat.le_refl _) CE hq)
      clear hq hla hFr
      gi_wp2
      refine ⟨trivial, fun h => (by simp [Fence.wide] at h), CallsIn.mono (CallsIn.inRound ll (callsIn_wide.2 CE.out)) ?_⟩
      rintro e w2 ⟨A2, c2, rfl, hF2, hb2⟩
      have hv2 : Boxed w2 w1.heap.size 28 (.slice A' (mRun l pre).length c') := (hb2.block _ hbw).trans hv
      have hcc := hv2.cell
      have hff := hv2.frozen
      gi_wp2
      refine ⟨((KeepsOthers.of_grownBy (grown_of_below hb2) (fun j o h => by cases h)).trans (KeepsOthers.setCell _ _ _)).from _, (hb2.mono hB.size).setCell (by have := hB0.size; simpa using this) _, ⟨A2, c2, ?_, ?_⟩, (hB.trans (hb2.mono hB.size)).setCell (by have := hB0.size; simpa using this) _, by simp [World.setCell]; exact Nat.le_trans hsz hb2.size⟩
      · rw [hm2]; exact hv2.set _
      · rw [hm2]
        intro h0
        have h := (hF2.keep (w' := w2.setCell ⟨w1.heap.size, 0, none⟩ (.slice A2 q.length c2)) (fun b b1 b2 b3 => Below.heap_setCell w2 ⟨w1.heap.size, 0, none⟩ _ b (by simp; omega))).2 h0
        exact own_base h.1 hB.size
  case done =>
    rintro D zs W hD rfl ⟨⟨A', c', hv, hrow⟩, hB, hsz⟩ hK
    have hc := hv.cell
    obtain ⟨lo', hi', hF, hlo, hhi', hnD⟩ := row_tightN rfl hrow hK
    gi_wp2
    refine ⟨by simp, .inl ⟨_, _, rfl, run_takeDeferred hK, ?_⟩⟩
    refine ⟨_, results_tmp rfl _ _ _, A', c', rfl, ?_, ?_⟩
    · refine (hF.keep fun b b1 b2 b3 => World.putObj_heap_other (fun e => hnD (by omega))).mono hlo ?_
      simp
      omega
    · exact hB.trans (belowK_b (w := w) (Nat.le_refl _) W D _ _ (by have := hB1.size; simp at hD this; omega) hK rfl rfl)
  case stop =>
    rintro D c pre W _ _ h _
    exact h.elim
end Go.Proofs.YtejcioenoofjlaaGreat
