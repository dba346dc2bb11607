/- AppliesTo, of the program and of the model. -/
import Derived.Test.YtfceddgacefejaaApplies
import Derived.Test.YtfceddgacefejaaFun
import Derived.Test.YtfceddgacefejaaSlI
import Derived.Test.YtfceddgacefejaaApp
import Derived.Test.YtfceddgacefejaaBest
import Derived.Handy
import Derived.Deep.RegionHeld3
import Derived.Deep.LoopGhost
namespace Go.Proofs.Ytfceddgacefejaa
open Go Go.ChangeShapes Go.WideShapes Go.ChangeAt Go.RowKit Go.Lib
set_option linter.unusedVariables false
set_option linter.unusedSimpArgs false
set_option maxRecDepth 100000
def rangeI (a : Int) (n : Nat) : List Int := (List.range n).map fun k : Nat => a + (k : Int)
theorem rangeI_len (a : Int) (n : Nat) : (rangeI a n).length = n := by simp [rangeI]
theorem rangeI_get (a : Int) {n k : Nat} (h : k < n) : (rangeI a n)[k]? = some (a + (k : Int)) := by simp [rangeI, h]
theorem rangeI_mem {a x : Int} {n : Nat} (h : x ∈ rangeI a n) : ∃ k : Nat, k < n ∧ x = a + (k : Int) := by
  simp [rangeI] at h
  obtain ⟨k, hk, rfl⟩ := h
  exact ⟨k, hk, rfl⟩
theorem info_intN : (Try.prog.info? 3).map (fun i => (i.zero, i.size, i.bytes)) = some (some (.int .i64 0), 1, 8) := by kernel_rfl
theorem one_intN (z : Int) : ∀ u ∈ (#[Value.int .i64 z]).toList, u.oneCell' = true := by
  intro u hu
  simp only [List.mem_singleton] at hu
  subst hu
  rfl
theorem filt_snoc {α : Type} {p : α → Bool} {l : List α} {k : Nat} {x : α} (h : l[k]? = some x) : (l.take (k + 1)).filter p = if p x = true then (l.take k).filter p ++ [x] else (l.take k).filter p := by
  rw [List.take_add_one, h, Option.toList_some, List.filter_append]
  by_cases hp : p x = true <;> simp [hp]

set_option maxHeartbeats 8000000 in
theorem numbers_ApT (p : Int → Bool) (lb : Array Value) (low : Int) (cnt : Nat) (w : World) (hl0 : 0 ≤ low) (hl1 : low ≤ 1000) (hc : cnt ≤ 1048576) (hp : PredB Try.prog 150 lb (fun x : Int => .int .i64 x) p (rangeI low cnt) w) :
    Calls Try.prog 146 #[.int .i64 low, .int .i64 (low + cnt - 1), .func (.func 150) #[] lb] w (Makes 3 1 ((rangeI low cnt).filter p).length (i64s ((rangeI low cnt).filter p)) w) := by
  have HP := Lib.hid hp
  clear hp
  have HRL := Lib.hid (rangeI_len low cnt)
  have HRG := Lib.hid (fun (k : Nat) (h : k < cnt) => rangeI_get low h)
  generalize rangeI low cnt = L at HP HRL HRG ⊢
  go_enter Try.func146, Try.ntmps146
  go_wp2_with fail
  go_loopw [7, 8] (fun v i wr => ∃ k : Nat, k ≤ cnt ∧ i = .int .i64 (low + (k : Int)) ∧ wr.ownsRow w.heap.size 3 1 v ((L.take k).filter p).length (i64s ((L.take k).filter p)) ∧ Below w.heap.size w wr) (fun _ i _ => (low + cnt - intOf i).toNat)
  case atStart => exact ⟨0, Nat.zero_le _, by (congr 1; simp), World.ownsRow_lit w #[] 0 (Nat.le_refl _) (by unfold maxLen; omega) rfl, (Below.refl _ _).alloc (Nat.le_refl _) _⟩
  case round =>
    obtain ⟨k, hk, rfl, hown, hb⟩ := hrel
    have HB := Lib.hid hb
    have HO := Lib.hid hown
    have HS := Lib.hid hb.size
    clear hown hb
    by_cases hlt : k < cnt
    · have HE := Lib.hid (filt_snoc (p := p) (HRG.out k hlt))
      have HN := Lib.hid (Nat.le_trans (List.length_filter_le p (L.take k)) (List.length_take_le _ _))
      have HC := HP.out wr (low + (k : Int)) (mem_of_get (HRG.out k hlt)) HB.out
      have hle : low + (k : Int) ≤ low + (cnt : Int) - 1 := by omega
      have HQ := HE
      cases hq : p (low + (k : Int))
      · rw [hq] at HC
        replace HC := Lib.hid HC
        have H2 := Lib.hid (by have := HE.out; rwa [if_neg (by rw [hq]; decide)] at this)
        clear hq HE HQ
        go_wp2_with (go_at_call 150; refine Calls.mono HC.out ?_; rintro e w1 ⟨rfl, hb1⟩; (have HB1 := Lib.hid (below_trans HB.out hb1 (Nat.le_refl _))); (have HO1 := Lib.hid (own_newer HO.out hb1)); clear hb1)
        go_roundw
        case rel => exact ⟨k + 1, by omega, by (congr 1; omega), by rw [H2.out]; exact HO1.out, HB1.out⟩
        case measure => simp [intOf]; omega
      · rw [hq] at HC
        replace HC := Lib.hid HC
        have H2 := Lib.hid (by have := HE.out; rwa [if_pos hq] at this)
        clear hq HE HQ
        go_wp2_with (first | (go_at_call 150; refine Calls.mono HC.out ?_; rintro e w1 ⟨rfl, hb1⟩; (have HB1 := Lib.hid (below_trans HB.out hb1 (Nat.le_refl _))); (have HO1 := Lib.hid (own_newer HO.out hb1)); (have HS1 := Lib.hid HB1.out.size); clear hb1) | (at_builtin; refine wp_app_lit rfl _ _ _ rfl w.heap.size 3 (.int .i64 0) 1 8 Try.underlying60 info_intN rfl (by decide) _ _ _ rfl HO1.out #[.int .i64 (low + (k : Int))] 1 1 _ rfl (by simp) rfl (one_intN _) (by have := HN.out; unfold maxLen; omega) (by have := HN.out; omega) (by have := HS1.out; omega) ?_; intro v1 w2 ho1 hb1))
        have HO2 := Lib.hid (show w2.ownsRow w.heap.size 3 1 v1 ((L.take (k + 1)).filter p).length (i64s ((L.take (k + 1)).filter p)) by
          rw [H2.out]
          simpa using ho1)
        have HB2 := Lib.hid (HB1.out.trans hb1)
        clear ho1 hb1
        go_wp2_with fail
        go_roundw
        case rel => exact ⟨k + 1, by omega, by (congr 1; omega), HO2.out, HB2.out⟩
        case measure => simp [intOf]; omega
    · obtain rfl : k = cnt := by omega
      have hle : low + (k : Int) - 1 < low + (k : Int) := by omega
      have HO2 := HO.out
      rw [List.take_of_length_le (by rw [HRL.out]; omega)] at HO2
      replace HO2 := Lib.hid HO2
      go_wp2_with fail
      go_ret
      exact makes_of_own HO2.out HB.out

def mAt (l : List TRule) (q : TRequest) (i : Int) : Bool := match l[i.toNat]? with | some x => mApplies x q | none => false
def mTo (l : List TRule) (q : TRequest) : List Int := (rangeI 0 l.length).filter (mAt l q)
theorem mTo_len (l : List TRule) (q : TRequest) : (mTo l q).length ≤ l.length := Nat.le_trans (List.length_filter_le _ _) (Nat.le_of_eq (rangeI_len _ _))
set_option maxHeartbeats 8000000 in
theorem clo_ApT (l : List TRule) (A : Option Addr) (n c lo hi : Nat) (q : TRequest) (B B2 : Nat) (w0 : World) (hl : l.length = n) (hr : Rd w0 lo hi 8 A n (cRule l)) (h1 : BoxAt w0 B 55 #[.slice A n c]) (h2 : BoxAt w0 B2 57 #[.int .i64 q.f0, .int .i64 q.f1, .int .i64 q.f2]) :
    PredB Try.prog 150 #[.pointer (some ⟨B, 0, none⟩), .pointer (some ⟨B2, 0, none⟩)] (fun x : Int => .int .i64 x) (mAt l q) (rangeI 0 n) w0 := fun w z hz hb => by
  obtain ⟨k, hk, rfl⟩ := rangeI_mem hz
  clear hz
  rw [Int.zero_add]
  obtain ⟨b, off, x, rfl, _, _, hx, hc⟩ := rd_elem TRule.len (hr.new hb) hl hk
  have c0 : w.cell? ⟨b, off + k * 8, none⟩ = some (.int .i64 x.f0) := hc 0 _ rfl
  have c1 : w.cell? ⟨b, off + k * 8 + 1, none⟩ = some (.int .i64 x.f1) := hc 1 _ rfl
  have c2 : w.cell? ⟨b, off + k * 8 + 2, none⟩ = some (.int .i64 x.f2) := hc 2 _ rfl
  have c3 : w.cell? ⟨b, off + k * 8 + 3, none⟩ = some (.int .i64 x.f3) := hc 3 _ rfl
  have c4 : w.cell? ⟨b, off + k * 8 + 4, none⟩ = some (.int .i64 x.f4) := hc 4 _ rfl
  have c5 : w.cell? ⟨b, off + k * 8 + 5, none⟩ = some (.int .i64 x.f5) := hc 5 _ rfl
  have c6 : w.cell? ⟨b, off + k * 8 + 6, none⟩ = some (.int .i64 x.f6) := hc 6 _ rfl
  have c7 : w.cell? ⟨b, off + k * 8 + 7, none⟩ = some (.int .i64 x.f7) := hc 7 _ rfl
  have J1 := h1.new hb
  have J2 := h2.new hb
  have hj1 := J1.lt
  have hj2 := J2.lt
  have C0 := fun W => impl_Applies x q W
  have hp : mAt l q (k : Int) = mApplies x q := by simp [mAt, hx]
  rw [hp]
  clear hp hx hr h1 h2 hb hc
  change Calls Try.prog _ #[.int .i64 k, .pointer (some ⟨B, 0, none⟩), .pointer (some ⟨B2, 0, none⟩)] _ (Says (.bool (mApplies x q)) w)
  generalize mApplies x q = r at C0 ⊢
  replace C0 := Lib.hid C0
  go_enter Try.func150, Try.ntmps150
  go_wp2_with fail
  refine wp_region_held_drew (S := fun w' => BoxAt w' B 55 #[.slice (some ⟨b, off, none⟩) n c] ∧ BoxAt w' B2 57 #[.int .i64 q.f0, .int .i64 q.f1, .int .i64 q.f2] ∧ Below w.heap.size w w') (by kernel_rfl) ?_ (fun hHeld => ?_)
  · exact ⟨J1.drw, J2.drw, (Below.refl _ _).drew⟩
  refine wpAnyH_take (i := 0) (oi := ⟨some 5, _, _, _, _, _⟩) (v := ?_) rfl (by kernel_rfl) (by kernel_rfl) (by kernel_rfl) (fun _ _ _ h => h) (Or.inl ⟨by kernel_rfl, ?_⟩) hHeld ?_
  rotate_left
  focus (intro W hS; have c0_0 := (hS.1).at_ (j := 0) rfl; have c1_0 := (hS.2.1).at_ (j := 0) rfl; have c1_1 := (hS.2.1).at_ (j := 1) rfl; have c1_2 := (hS.2.1).at_ (j := 2) rfl; have c0' := cell_nw hS.2.2 c0; have c1' := cell_nw hS.2.2 c1; have c2' := cell_nw hS.2.2 c2; have c3' := cell_nw hS.2.2 c3; have c4' := cell_nw hS.2.2 c4; have c5' := cell_nw hS.2.2 c5; have c6' := cell_nw hS.2.2 c6; have c7' := cell_nw hS.2.2 c7; clear hS; first | (go_simp; done) | (go_simp; with_reducible rfl))
  try simp only [Act.put, List.setIfInBounds_toArray, List.set_cons_zero, List.set_cons_succ]
  refine wpAnyH_take (i := 1) (oi := ⟨some 6, _, _, _, _, _⟩) (v := ?_) rfl (by kernel_rfl) (by kernel_rfl) (by kernel_rfl) (fun _ _ _ h => h) (Or.inl ⟨by kernel_rfl, ?_⟩) hHeld ?_
  rotate_left
  focus (intro W hS; have c0_0 := (hS.1).at_ (j := 0) rfl; have c1_0 := (hS.2.1).at_ (j := 0) rfl; have c1_1 := (hS.2.1).at_ (j := 1) rfl; have c1_2 := (hS.2.1).at_ (j := 2) rfl; have c0' := cell_nw hS.2.2 c0; have c1' := cell_nw hS.2.2 c1; have c2' := cell_nw hS.2.2 c2; have c3' := cell_nw hS.2.2 c3; have c4' := cell_nw hS.2.2 c4; have c5' := cell_nw hS.2.2 c5; have c6' := cell_nw hS.2.2 c6; have c7' := cell_nw hS.2.2 c7; clear hS; first | (go_simp; done) | (go_simp; with_reducible rfl))
  try simp only [Act.put, List.setIfInBounds_toArray, List.set_cons_zero, List.set_cons_succ]
  refine wpAnyH_take (i := 2) (oi := ⟨some 7, _, _, _, _, _⟩) (v := ?_) rfl (by kernel_rfl) (by kernel_rfl) (by kernel_rfl) (fun _ _ _ h => h) (Or.inl ⟨by kernel_rfl, ?_⟩) hHeld ?_
  rotate_left
  focus (intro W hS; have c0_0 := (hS.1).at_ (j := 0) rfl; have c1_0 := (hS.2.1).at_ (j := 0) rfl; have c1_1 := (hS.2.1).at_ (j := 1) rfl; have c1_2 := (hS.2.1).at_ (j := 2) rfl; have c0' := cell_nw hS.2.2 c0; have c1' := cell_nw hS.2.2 c1; have c2' := cell_nw hS.2.2 c2; have c3' := cell_nw hS.2.2 c3; have c4' := cell_nw hS.2.2 c4; have c5' := cell_nw hS.2.2 c5; have c6' := cell_nw hS.2.2 c6; have c7' := cell_nw hS.2.2 c7; clear hS; first | (go_simp; done) | (go_simp; with_reducible rfl))
  try simp only [Act.put, List.setIfInBounds_toArray, List.set_cons_zero, List.set_cons_succ]
  refine wpAnyH_take (i := 3) (oi := ⟨some 8, _, _, _, _, _⟩) (v := ?_) rfl (by kernel_rfl) (by kernel_rfl) (by kernel_rfl) (fun _ _ _ h => h) (Or.inl ⟨by kernel_rfl, ?_⟩) hHeld ?_
  rotate_left
  focus (intro W hS; have c0_0 := (hS.1).at_ (j := 0) rfl; have c1_0 := (hS.2.1).at_ (j := 0) rfl; have c1_1 := (hS.2.1).at_ (j := 1) rfl; have c1_2 := (hS.2.1).at_ (j := 2) rfl; have c0' := cell_nw hS.2.2 c0; have c1' := cell_nw hS.2.2 c1; have c2' := cell_nw hS.2.2 c2; have c3' := cell_nw hS.2.2 c3; have c4' := cell_nw hS.2.2 c4; have c5' := cell_nw hS.2.2 c5; have c6' := cell_nw hS.2.2 c6; have c7' := cell_nw hS.2.2 c7; clear hS; first | (go_simp; done) | (go_simp; with_reducible rfl))
  try simp only [Act.put, List.setIfInBounds_toArray, List.set_cons_zero, List.set_cons_succ]
  refine wpAnyH_take (i := 4) (oi := ⟨some 9, _, _, _, _, _⟩) (v := ?_) rfl (by kernel_rfl) (by kernel_rfl) (by kernel_rfl) (fun _ _ _ h => h) (Or.inl ⟨by kernel_rfl, ?_⟩) hHeld ?_
  rotate_left
  focus (intro W hS; have c0_0 := (hS.1).at_ (j := 0) rfl; have c1_0 := (hS.2.1).at_ (j := 0) rfl; have c1_1 := (hS.2.1).at_ (j := 1) rfl; have c1_2 := (hS.2.1).at_ (j := 2) rfl; have c0' := cell_nw hS.2.2 c0; have c1' := cell_nw hS.2.2 c1; have c2' := cell_nw hS.2.2 c2; have c3' := cell_nw hS.2.2 c3; have c4' := cell_nw hS.2.2 c4; have c5' := cell_nw hS.2.2 c5; have c6' := cell_nw hS.2.2 c6; have c7' := cell_nw hS.2.2 c7; clear hS; first | (go_simp; done) | (go_simp; with_reducible rfl))
  try simp only [Act.put, List.setIfInBounds_toArray, List.set_cons_zero, List.set_cons_succ]
  refine wpAnyH_ready (rs := [5]) (by kernel_rfl) (by simp) ?_
  refine AllReadyH.cons (o := ⟨some 10, _, _, _, _, _⟩) rfl (fun K hK => ?_) AllReadyH.nil
  go_simp
  refine Calls.mono (C0.out _) ?_
  rintro e x1 ⟨rfl, hb1⟩
  refine hK.out _ _ ⟨hHeld.1.new hb1, hHeld.2.1.new hb1, below_trans hHeld.2.2 hb1 (Nat.le_refl _)⟩ (fun hHeld' => ?_)
  clear hK K hHeld hb1
  have hHeld := hHeld'
  clear hHeld'
  try simp only [Act.put, List.setIfInBounds_toArray, List.set_cons_zero, List.set_cons_succ]
  refine wpAnyH_take (i := 6) (oi := ⟨some 4, _, _, _, _, _⟩) (v := ?_) rfl (by kernel_rfl) (by kernel_rfl) (by kernel_rfl) (fun _ _ _ h => h) (Or.inl ⟨by kernel_rfl, ?_⟩) hHeld ?_
  rotate_left
  focus (intro W hS; have c0_0 := (hS.1).at_ (j := 0) rfl; have c1_0 := (hS.2.1).at_ (j := 0) rfl; have c1_1 := (hS.2.1).at_ (j := 1) rfl; have c1_2 := (hS.2.1).at_ (j := 2) rfl; have c0' := cell_nw hS.2.2 c0; have c1' := cell_nw hS.2.2 c1; have c2' := cell_nw hS.2.2 c2; have c3' := cell_nw hS.2.2 c3; have c4' := cell_nw hS.2.2 c4; have c5' := cell_nw hS.2.2 c5; have c6' := cell_nw hS.2.2 c6; have c7' := cell_nw hS.2.2 c7; clear hS; first | (go_simp; done) | (go_simp; with_reducible rfl))
  try simp only [Act.put, List.setIfInBounds_toArray, List.set_cons_zero, List.set_cons_succ]
  refine wpAnyH_done (by kernel_rfl) ?_ _
  go_wp2_with fail
  go_ret
  exact ⟨rfl, hHeld.2.2⟩

set_option maxHeartbeats 8000000 in
theorem impl_AppliesTo (l : List TRule) (A : Option Addr) (n c lo hi : Nat) (q : TRequest) (w : World) (hn : n ≤ 1048576) (hr : Rd w lo hi 8 A n (cRule l)) (H : Hid (cRuleOk l)) : Calls Try.prog 42 #[.slice A n c, vReq q] w (Makes 3 1 (mTo l q).length (i64s (mTo l q)) w) := by
  have hmf : ∀ (fn : Fn) (first cap : Array Value) (w : World), (Instr.makeFunc fn first cap).run Try.prog w = .ok (.func fn first cap) w := fun _ _ _ _ => rfl
  have hl := rd_len TRule.len hr (by decide)
  have HB0 : Below w.heap.size w ((w.alloc (.cells #[.slice A n c] 55)).alloc (.cells #[.int .i64 q.f0, .int .i64 q.f1, .int .i64 q.f2] 57)) := ((Below.refl _ _).alloc (Nat.le_refl _) _).alloc (by simp) _
  have h2 : BoxAt ((w.alloc (.cells #[.slice A n c] 55)).alloc (.cells #[.int .i64 q.f0, .int .i64 q.f1, .int .i64 q.f2] 57)) (w.heap.size + 1) 57 #[.int .i64 q.f0, .int .i64 q.f1, .int .i64 q.f2] := by simpa using box_new (w.alloc (.cells #[.slice A n c] 55)) 57 #[.int .i64 q.f0, .int .i64 q.f1, .int .i64 q.f2]
  have HC := numbers_ApT (mAt l q) (#[.pointer (some ⟨w.heap.size, 0, none⟩), .pointer (some ⟨w.heap.size + 1, 0, none⟩)]) 0 n ((w.alloc (.cells #[.slice A n c] 55)).alloc (.cells #[.int .i64 q.f0, .int .i64 q.f1, .int .i64 q.f2] 57)) (by decide) (by decide) hn
    (clo_ApT l A n c lo hi q w.heap.size (w.heap.size + 1) ((w.alloc (.cells #[.slice A n c] 55)).alloc (.cells #[.int .i64 q.f0, .int .i64 q.f1, .int .i64 q.f2] 57)) hl ((hr.alloc _).alloc _) ((box_new w 55 #[.slice A n c]).alloc_ _) h2)
  rw [Int.zero_add] at HC
  have hm : mTo l q = (rangeI 0 n).filter (mAt l q) := by rw [← hl]; rfl
  rw [← hm] at HC
  replace HB0 := Lib.hid HB0
  have hwr : IntKind.i64.wrap ((n : Int) - 1) = (n : Int) - 1 := IntWalk.i64_in _ (by omega)
  clear hr h2 hl hm
  generalize mTo l q = r at HC ⊢
  replace HC := Lib.hid HC
  go_enter Try.func42, Try.ntmps42
  go_wp2_with fail
  refine Calls.mono HC.out ?_
  rintro e w1 ⟨A', c', rfl, hf, hb1⟩
  have HB1 := Lib.hid (below_trans HB0.out hb1 (by simp <;> omega))
  clear hb1
  go_wp2_with fail
  go_ret
  exact ⟨A', c', rfl, ⟨hf.1, fun h => ⟨own_base (hf.2 h).1 (by simp <;> omega), (hf.2 h).2⟩⟩, HB1.out⟩

end Go.Proofs.Ytfceddgacefejaa
