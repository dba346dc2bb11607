/- ClashCount, of the program and of the model. -/
import Derived.Test.YtfceddgacefejaaClash
import Derived.Test.YtfceddgacefejaaIn
import Derived.Handy
import Derived.Deep.RegionHeld3
import Derived.Deep.LoopGhost
import Derived.IntWalk
namespace Go.Proofs.Ytfceddgacefejaa
open Go Go.ChangeShapes Go.WideShapes Go.ChangeAt Go.RowKit Go.Lib
set_option linter.unusedVariables false
set_option linter.unusedSimpArgs false
set_option maxRecDepth 100000
set_option maxHeartbeats 8000000 in
theorem numbers_CC (p : Int → Bool) (lb : Array Value) (low : Int) (cnt : Nat) (w : World) (hl0 : 0 ≤ low) (hl1 : low ≤ 1000) (hc : cnt ≤ 1048576) (hp : PredB Try.prog 156 lb (fun x : Int => .int .i64 x) p (rangeI low cnt) w) :
    Calls Try.prog 146 #[.int .i64 low, .int .i64 (low + cnt - 1), .func (.func 156) #[] lb] w (Makes 3 1 ((rangeI low cnt).filter p).length (i64s ((rangeI low cnt).filter p)) w) := by
  have HP := Lib.hid hp
  clear hp
  have HRL := Lib.hid (rangeI_len low cnt)
  have HRG := Lib.hid (fun (k : Nat) (h : k < cnt) => rangeI_get low h)
  generalize rangeI low cnt = L at HP HRL HRG ⊢
  go_enter Try.func146, Try.ntmps146
  go_wp2_with fail
  go_loopw [7, 8] (fun v i wr => ∃ k : Nat, k ≤ cnt ∧ i = .int .i64 (low + (k : Int)) ∧ wr.ownsRow w.heap.size 3 1 v ((L.take k).filter p).length (i64s ((L.take k).filter p)) ∧ Below w.heap.size w wr) (fun _ i _ => (low + cnt - intOf i).toNat)
  case atStart => exact ⟨0, Nat.zero_le _, by (congr 1; simp), World.ownsRow_lit w #[] 0 (Nat.le_refl _) (by unfold maxLen; omega) rfl, (Below.refl _ _).alloc (Nat.le_refl _) _⟩
  case round =>
    obtain ⟨k, hk, rfl, hown, hb⟩ := hrel
    have HB := Lib.hid hb
    have HO := Lib.hid hown
    have HS := Lib.hid hb.size
    clear hown hb
    by_cases hlt : k < cnt
    · have HE := Lib.hid (filt_snoc (p := p) (HRG.out k hlt))
      have HN := Lib.hid (Nat.le_trans (List.length_filter_le p (L.take k)) (List.length_take_le _ _))
      have HC := HP.out wr (low + (k : Int)) (mem_of_get (HRG.out k hlt)) HB.out
      have hle : low + (k : Int) ≤ low + (cnt : Int) - 1 := by omega
      have HQ := HE
      cases hq : p (low + (k : Int))
      · rw [hq] at HC
        replace HC := Lib.hid HC
        have H2 := Lib.hid (by have := HE.out; rwa [if_neg (by rw [hq]; decide)] at this)
        clear hq HE HQ
        go_wp2_with (go_at_call 156; refine Calls.mono HC.out ?_; rintro e w1 ⟨rfl, hb1⟩; (have HB1 := Lib.hid (below_trans HB.out hb1 (Nat.le_refl _))); (have HO1 := Lib.hid (own_newer HO.out hb1)); clear hb1)
        go_roundw
        case rel => exact ⟨k + 1, by omega, by (congr 1; omega), by rw [H2.out]; exact HO1.out, HB1.out⟩
        case measure => simp [intOf]; omega
      · rw [hq] at HC
        replace HC := Lib.hid HC
        have H2 := Lib.hid (by have := HE.out; rwa [if_pos hq] at this)
        clear hq HE HQ
        go_wp2_with (first | (go_at_call 156; refine Calls.mono HC.out ?_; rintro e w1 ⟨rfl, hb1⟩; (have HB1 := Lib.hid (below_trans HB.out hb1 (Nat.le_refl _))); (have HO1 := Lib.hid (own_newer HO.out hb1)); (have HS1 := Lib.hid HB1.out.size); clear hb1) | (at_builtin; refine wp_app_lit rfl _ _ _ rfl w.heap.size 3 (.int .i64 0) 1 8 Try.underlying60 info_intN rfl (by decide) _ _ _ rfl HO1.out #[.int .i64 (low + (k : Int))] 1 1 _ rfl (by simp) rfl (one_intN _) (by have := HN.out; unfold maxLen; omega) (by have := HN.out; omega) (by have := HS1.out; omega) ?_; intro v1 w2 ho1 hb1))
        have HO2 := Lib.hid (show w2.ownsRow w.heap.size 3 1 v1 ((L.take (k + 1)).filter p).length (i64s ((L.take (k + 1)).filter p)) by
          rw [H2.out]
          simpa using ho1)
        have HB2 := Lib.hid (HB1.out.trans hb1)
        clear ho1 hb1
        go_wp2_with fail
        go_roundw
        case rel => exact ⟨k + 1, by omega, by (congr 1; omega), HO2.out, HB2.out⟩
        case measure => simp [intOf]; omega
    · obtain rfl : k = cnt := by omega
      have hle : low + (k : Int) - 1 < low + (k : Int) := by omega
      have HO2 := HO.out
      rw [List.take_of_length_le (by rw [HRL.out]; omega)] at HO2
      replace HO2 := Lib.hid HO2
      go_wp2_with fail
      go_ret
      exact makes_of_own HO2.out HB.out

/-- The request with this number to the sites of an owner. -/
def rqTo (o z : Int) : TRequest := ⟨o, z % 10, 1 + z / 10⟩
theorem impl_requestTo (o z : Int) (w : World) (h0 : 0 ≤ z) (h1 : z ≤ 1000) : Calls Try.prog 145 #[.int .i64 o, .int .i64 z] w (Says (.agg #[.int .i64 o, .int .i64 (z % 10), .int .i64 (1 + z / 10)]) w) := by
  have e1 : Int.tmod z 10 = z % 10 := Int.tmod_eq_emod_of_nonneg h0
  have e2 : Int.tdiv z 10 = z / 10 := Int.tdiv_eq_ediv_of_nonneg h0
  have hw : IntKind.i64.wrap (1 + z / 10) = 1 + z / 10 := IntWalk.i64_in _ (by omega)
  go_enter Try.func145, Try.ntmps145
  go_wp2_with fail
  exact bodyPost_ret (v := .agg #[.int .i64 o, .int .i64 (z % 10), .int .i64 (1 + z / 10)]) (by simp [results, Try.results145, go_sem]) rfl ⟨rfl, by repeat (first | exact Below.refl _ _ | (refine Below.alloc ?_ (by first | omega | (simp; done) | (simp <;> omega)) _) | (refine Below.setCell ?_ (by first | omega | (simp; done) | (simp <;> omega)) _))⟩
def mCC (l : List TRule) (o : Int) : Nat := ((rangeI 0 40).filter fun z => mClash l (rqTo o z)).length
theorem mClash_off (l : List TRule) (o z : Int) (h : inR o 1 9 = false) : mClash l (rqTo o z) = false := by
  have : mCl l (rqTo o z) = [] := by
    unfold mCl
    rw [List.filter_eq_nil_iff]
    intro x _
    simp [mApplies, mIsRequest, mIsSite, rqTo, h]
  unfold mClash
  rw [this]; rfl
theorem mCC_off (l : List TRule) (o : Int) (h : inR o 1 9 = false) : mCC l o = 0 := by
  unfold mCC
  rw [List.length_eq_zero_iff, List.filter_eq_nil_iff]
  intro z _
  rw [mClash_off l o z h]; simp
theorem mCC_le (l : List TRule) (o : Int) : mCC l o ≤ 40 := Nat.le_trans (List.length_filter_le _ _) (Nat.le_of_eq (rangeI_len _ _))

set_option maxHeartbeats 8000000 in
theorem clo_CC (l : List TRule) (A : Option Addr) (n c lo hi : Nat) (o : Int) (BL BO : Nat) (w : World) (h0 : n ≤ 1048576) (hr : Rd w lo hi 8 A n (cRule l)) (b0 : Hid (cRuleOk l)) (hl : BoxAt w BL 55 #[.slice A n c]) (ho : BoxAt w BO 3 #[.int .i64 o]) :
    PredB Try.prog 156 #[.pointer (some ⟨BL, 0, none⟩), .pointer (some ⟨BO, 0, none⟩)] (fun x : Int => .int .i64 x) (fun z => mClash l (rqTo o z)) (rangeI 0 40) w := fun W z hz hb => by
  obtain ⟨k, hk, rfl⟩ := rangeI_mem hz
  rw [Int.zero_add]
  have KL := hl.new hb
  have KO := ho.new hb
  have HR := Lib.hid (hr.new hb)
  have CQ := Lib.hid (fun V => impl_requestTo o (k : Int) V (by omega) (by omega))
  have CC : Hid (∀ V, Rd V lo hi 8 A n (cRule l) → Calls Try.prog 43 #[.slice A n c, .agg #[.int .i64 o, .int .i64 ((k : Int) % 10), .int .i64 (1 + (k : Int) / 10)]] V (Says (.bool (mClash l (rqTo o (k : Int)))) V)) := Lib.hid (fun V hV => impl_ClashOf l A n c lo hi (rqTo o (k : Int)) V h0 hV b0)
  change Calls Try.prog _ #[.int .i64 (k : Int), .pointer (some ⟨BL, 0, none⟩), .pointer (some ⟨BO, 0, none⟩)] _ (Says (.bool (mClash l (rqTo o (k : Int)))) W)
  generalize mClash l (rqTo o (k : Int)) = r at CC ⊢
  clear hz hb hr hl ho
  go_enter Try.func156, Try.ntmps156
  go_wp2_with fail
  refine wp_region_held_drew (S := fun w' => BoxAt w' BL 55 #[.slice A n c] ∧ BoxAt w' BO 3 #[.int .i64 o] ∧ Below W.heap.size W w') (by kernel_rfl) ?_ (fun hHeld => ?_)
  · exact ⟨KL.drw, KO.drw, (Below.refl _ _).drew⟩
  refine wpAnyH_take (i := 0) (oi := ⟨some 5, _, _, _, _, _⟩) (v := ?_) rfl (by kernel_rfl) (by kernel_rfl) (by kernel_rfl) (fun _ _ _ h => h) (Or.inl ⟨by kernel_rfl, ?_⟩) hHeld ?_
  rotate_left
  focus (intro W hS; have c0_0 := (hS.1).at_ (j := 0) rfl; have c1_0 := (hS.2.1).at_ (j := 0) rfl; clear hS; first | (go_simp; done) | (go_simp; with_reducible rfl))
  try simp only [Act.put, List.setIfInBounds_toArray, List.set_cons_zero, List.set_cons_succ]
  refine wpAnyH_take (i := 1) (oi := ⟨some 6, _, _, _, _, _⟩) (v := ?_) rfl (by kernel_rfl) (by kernel_rfl) (by kernel_rfl) (fun _ _ _ h => h) (Or.inl ⟨by kernel_rfl, ?_⟩) hHeld ?_
  rotate_left
  focus (intro W hS; have c0_0 := (hS.1).at_ (j := 0) rfl; have c1_0 := (hS.2.1).at_ (j := 0) rfl; clear hS; first | (go_simp; done) | (go_simp; with_reducible rfl))
  try simp only [Act.put, List.setIfInBounds_toArray, List.set_cons_zero, List.set_cons_succ]
  refine wpAnyH_take (i := 2) (oi := ⟨some 7, _, _, _, _, _⟩) (v := ?_) rfl (by kernel_rfl) (by kernel_rfl) (by kernel_rfl) (fun _ _ _ h => h) (Or.inl ⟨by kernel_rfl, ?_⟩) hHeld ?_
  rotate_left
  focus (intro W hS; have c0_0 := (hS.1).at_ (j := 0) rfl; have c1_0 := (hS.2.1).at_ (j := 0) rfl; clear hS; first | (go_simp; done) | (go_simp; with_reducible rfl))
  try simp only [Act.put, List.setIfInBounds_toArray, List.set_cons_zero, List.set_cons_succ]
  refine wpAnyH_ready (rs := [3]) (by kernel_rfl) (by simp) ?_
  refine AllReadyH.cons (o := ⟨some 8, _, _, _, _, _⟩) rfl (fun K hK => ?_) AllReadyH.nil
  go_simp
  refine Calls.mono (CQ.out _) ?_
  rintro e x1 ⟨rfl, hb1⟩
  refine hK.out _ _ ⟨hHeld.1.new hb1, hHeld.2.1.new hb1, below_trans hHeld.2.2 hb1 (Nat.le_refl _)⟩ (fun hHeld' => ?_)
  clear hK K hHeld hb1
  have hHeld := hHeld'
  clear hHeld'
  try simp only [Act.put, List.setIfInBounds_toArray, List.set_cons_zero, List.set_cons_succ]
  refine wpAnyH_ready (rs := [4]) (by kernel_rfl) (by simp) ?_
  refine AllReadyH.cons (o := ⟨some 9, _, _, _, _, _⟩) rfl (fun K hK => ?_) AllReadyH.nil
  go_simp
  refine Calls.mono (CC.out _ (HR.out.new hHeld.2.2)) ?_
  rintro e x2 ⟨rfl, hb1⟩
  refine hK.out _ _ ⟨hHeld.1.new hb1, hHeld.2.1.new hb1, below_trans hHeld.2.2 hb1 (Nat.le_refl _)⟩ (fun hHeld' => ?_)
  clear hK K hHeld hb1
  have hHeld := hHeld'
  clear hHeld'
  try simp only [Act.put, List.setIfInBounds_toArray, List.set_cons_zero, List.set_cons_succ]
  refine wpAnyH_take (i := 5) (oi := ⟨some 4, _, _, _, _, _⟩) (v := ?_) rfl (by kernel_rfl) (by kernel_rfl) (by kernel_rfl) (fun _ _ _ h => h) (Or.inl ⟨by kernel_rfl, ?_⟩) hHeld ?_
  rotate_left
  focus (intro W hS; have c0_0 := (hS.1).at_ (j := 0) rfl; have c1_0 := (hS.2.1).at_ (j := 0) rfl; clear hS; first | (go_simp; done) | (go_simp; with_reducible rfl))
  try simp only [Act.put, List.setIfInBounds_toArray, List.set_cons_zero, List.set_cons_succ]
  refine wpAnyH_done (by kernel_rfl) ?_ _
  go_wp2_with fail
  go_ret
  exact ⟨rfl, hHeld.2.2⟩
set_option maxHeartbeats 8000000 in
theorem impl_ClashCount (l : List TRule) (A : Option Addr) (n c lo hi : Nat) (o : Int) (w : World) (h0 : n ≤ 1048576) (hr : Rd w lo hi 8 A n (cRule l)) (b0 : Hid (cRuleOk l)) :
    Calls Try.prog 44 #[.slice A n c, .int .i64 o] w (Says (.int .i64 (mCC l o : Nat)) w) := by
  have hmf : ∀ (fn : Fn) (first cap : Array Value) (w : World), (Instr.makeFunc fn first cap).run Try.prog w = .ok (.func fn first cap) w := fun _ _ _ _ => rfl
  have HC := numbers_CC (fun z => mClash l (rqTo o z)) #[.pointer (some ⟨w.heap.size, 0, none⟩), .pointer (some ⟨w.heap.size + 1, 0, none⟩)] 0 40 ((w.alloc (.cells #[.slice A n c] 55)).alloc (.cells #[.int .i64 o] 3)) (by decide) (by decide) (by decide)
    (clo_CC l A n c lo hi o w.heap.size (w.heap.size + 1) ((w.alloc (.cells #[.slice A n c] 55)).alloc (.cells #[.int .i64 o] 3)) h0 ((hr.alloc _).alloc _) b0 ((box_new _ _ _).alloc_ _) (by simpa using box_new (w.alloc (.cells #[.slice A n c] 55)) 3 #[.int .i64 o]))
  have HC2 := Lib.hid (show Calls Try.prog 146 #[.int .i64 0, .int .i64 39, .func (.func 156) #[] #[.pointer (some ⟨w.heap.size, 0, none⟩), .pointer (some ⟨w.heap.size + 1, 0, none⟩)]] ((w.alloc (.cells #[.slice A n c] 55)).alloc (.cells #[.int .i64 o] 3)) (Makes 3 1 (mCC l o) _ _) from HC)
  have HB0 := Lib.hid (show Below w.heap.size w ((w.alloc (.cells #[.slice A n c] 55)).alloc (.cells #[.int .i64 o] 3)) from ((Below.refl _ _).alloc (Nat.le_refl _) _).alloc (by simp) _)
  clear HC hr b0
  generalize mCC l o = m at HC2 ⊢
  go_enter Try.func44, Try.ntmps44
  go_wp2_with fail
  refine HC2.out.mono ?_
  rintro e w1 ⟨A', c', rfl, hf, hb1⟩
  have HB1 := Lib.hid (below_trans HB0.out hb1 (by simp <;> omega))
  clear hb1 hf
  go_wp2_with fail
  go_ret
  exact ⟨rfl, HB1.out⟩
end Go.Proofs.Ytfceddgacefejaa
