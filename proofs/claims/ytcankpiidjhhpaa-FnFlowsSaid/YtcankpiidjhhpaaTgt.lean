/- TargetsOf of the program and of the model. No condition. -/
import Derived.Test.YtcankpiidjhhpaaCgB
import Derived.Test.YtcankpiidjhhpaaCgS
import Derived.Test.YtcankpiidjhhpaaOwn2
import Derived.Test.YtcankpiidjhhpaaApp
import Derived.Test.YtcankpiidjhhpaaFun
import Derived.Handy
import Derived.Deep.LoopGhost
namespace Go.Proofs.Ytcankpiidjhhpaa
open Go Go.ChangeShapes Go.WideShapes Go.ChangeAt Go.RowKit Go.Lib
set_option linter.unusedVariables false
set_option linter.unusedSimpArgs false
set_option maxRecDepth 100000
set_option maxHeartbeats 8000000 in
theorem numbers_Tgt (p : Int → Bool) (mv : Value) (low : Int) (cnt : Nat) (w : World) (hl0 : 0 ≤ low) (hl1 : low ≤ 1000) (hc : cnt ≤ 1048576) (hp : PredM Try.prog 53 mv (fun x : Int => .int .i64 x) p (rangeI low cnt) w) :
    Calls Try.prog 60 #[.int .i64 low, .int .i64 (low + cnt - 1), .func (.func 53) #[mv] #[]] w (Makes 3 1 ((rangeI low cnt).filter p).length (i64s ((rangeI low cnt).filter p)) w) := by
  have HP := Lib.hid hp
  clear hp
  have HRL := Lib.hid (rangeI_len low cnt)
  have HRG := Lib.hid (fun (k : Nat) (h : k < cnt) => rangeI_get low h)
  generalize rangeI low cnt = L at HP HRL HRG ⊢
  go_enter Try.func60, Try.ntmps60
  go_wp2_with fail
  go_loopw [7, 8] (fun v i wr => ∃ k : Nat, k ≤ cnt ∧ i = .int .i64 (low + (k : Int)) ∧ wr.ownsRow w.heap.size 3 1 v ((L.take k).filter p).length (i64s ((L.take k).filter p)) ∧ Below w.heap.size w wr) (fun _ i _ => (low + cnt - intOf i).toNat)
  case atStart => exact ⟨0, Nat.zero_le _, by (congr 1; simp), World.ownsRow_lit w #[] 0 (Nat.le_refl _) (by unfold maxLen; omega) rfl, (Below.refl _ _).alloc (Nat.le_refl _) _⟩
  case round =>
    obtain ⟨k, hk, rfl, hown, hb⟩ := hrel
    have HB := Lib.hid hb
    have HO := Lib.hid hown
    have HS := Lib.hid hb.size
    clear hown hb
    by_cases hlt : k < cnt
    · have HE := Lib.hid (filt_snoc (p := p) (HRG.out k hlt))
      have HN := Lib.hid (Nat.le_trans (List.length_filter_le p (L.take k)) (List.length_take_le _ _))
      have HC := HP.out wr (low + (k : Int)) (mem_of_get (HRG.out k hlt)) HB.out
      have hle : low + (k : Int) ≤ low + (cnt : Int) - 1 := by omega
      have HQ := HE
      cases hq : p (low + (k : Int))
      · rw [hq] at HC
        replace HC := Lib.hid HC
        have H2 := Lib.hid (by have := HE.out; rwa [if_neg (by rw [hq]; decide)] at this)
        clear hq HE HQ
        go_wp2_with (go_at_call 53; refine Calls.mono HC.out ?_; rintro e w1 ⟨rfl, hb1⟩; (have HB1 := Lib.hid (below_trans HB.out hb1 (Nat.le_refl _))); (have HO1 := Lib.hid (own_newer HO.out hb1)); clear hb1)
        go_roundw
        case rel => exact ⟨k + 1, by omega, by (congr 1; omega), by rw [H2.out]; exact HO1.out, HB1.out⟩
        case measure => simp [intOf]; omega
      · rw [hq] at HC
        replace HC := Lib.hid HC
        have H2 := Lib.hid (by have := HE.out; rwa [if_pos hq] at this)
        clear hq HE HQ
        go_wp2_with (first | (go_at_call 53; refine Calls.mono HC.out ?_; rintro e w1 ⟨rfl, hb1⟩; (have HB1 := Lib.hid (below_trans HB.out hb1 (Nat.le_refl _))); (have HO1 := Lib.hid (own_newer HO.out hb1)); (have HS1 := Lib.hid HB1.out.size); clear hb1) | (at_builtin; refine wp_app_lit rfl _ _ _ rfl w.heap.size 3 (.int .i64 0) 1 8 Try.underlying29 info_intN rfl (by decide) _ _ _ rfl HO1.out #[.int .i64 (low + (k : Int))] 1 1 _ rfl (by simp) rfl (one_intN _) (by have := HN.out; unfold maxLen; omega) (by have := HN.out; omega) (by have := HS1.out; omega) ?_; intro v1 w2 ho1 hb1))
        have HO2 := Lib.hid (show w2.ownsRow w.heap.size 3 1 v1 ((L.take (k + 1)).filter p).length (i64s ((L.take (k + 1)).filter p)) by
          rw [H2.out]
          simpa using ho1)
        have HB2 := Lib.hid (HB1.out.trans hb1)
        clear ho1 hb1
        go_wp2_with fail
        go_roundw
        case rel => exact ⟨k + 1, by omega, by (congr 1; omega), HO2.out, HB2.out⟩
        case measure => simp [intOf]; omega
    · obtain rfl : k = cnt := by omega
      have hle : low + (k : Int) - 1 < low + (k : Int) := by omega
      have HO2 := HO.out
      rw [List.take_of_length_le (by rw [HRL.out]; omega)] at HO2
      replace HO2 := Lib.hid HO2
      go_wp2_with fail
      go_ret
      exact makes_of_own HO2.out HB.out
def mTarg (l : List TFlow) (e x : Int) : List Int := (rangeI 1 9).filter (mMayF l e x)
theorem mTarg_len (l : List TFlow) (e x : Int) : (mTarg l e x).length ≤ 9 := Nat.le_trans (List.length_filter_le _ _) (Nat.le_of_eq (rangeI_len _ _))
set_option maxHeartbeats 8000000 in
theorem impl_TargetsOf (l : List TFlow) (A : Option Addr) (n c lo hi : Nat) (e x : Int) (w : World) (hn : n ≤ 1048576) (hr : Rd w lo hi 3 A n (cFlow l)) (H : Hid (cFlowOk l)) :
    Calls Try.prog 15 #[.slice A n c, .int .i64 e, .int .i64 x] w (Makes 3 1 (mTarg l e x).length (i64s (mTarg l e x)) w) := by
  have hmf : ∀ (fn : Fn) (first cap : Array Value) (w : World), (Instr.makeFunc fn first cap).run Try.prog w = .ok (.func fn first cap) w := fun _ _ _ _ => rfl
  have C0 := Lib.hid (impl_newCargo l A n c lo hi e x w hn hr H)
  have hb : 0 ≤ (if mIsLabel x then x else 0) ∧ (if mIsLabel x then x else 0) ≤ 1022 := by
    cases h : mIsLabel x
    · simp
    · simp only [mIsLabel, Bool.and_eq_true] at h
      have := inR_true.1 h.1
      simp; omega
  have hm : (rangeI 1 9).filter (goes (opnG l e) (if mIsLabel x then x else 0) (mIsLabel x)) = mTarg l e x := by
    unfold mTarg
    refine congrFun (congrArg _ ?_) _
    funext t
    exact goes_may l e x t
  generalize (if mIsLabel x then x else 0) = b at C0 hb hm
  generalize mIsLabel x = v at C0 hm
  generalize mTarg l e x = L at hm ⊢
  have HC := Lib.hid (fun W => numbers_Tgt (goes (opnG l e) b v) (.agg (cargoC (opnG l e) b v)) 1 9 W (by decide) (by decide) (by decide) (fun W' z hz _ => impl_mayGo (opnG l e) b v z W' hb.1 hb.2))
  rw [hm] at HC
  clear hm hb
  generalize cargoC (opnG l e) b v = G at C0 HC
  have HC2 := Lib.hid (fun W => show Calls Try.prog 60 #[.int .i64 1, .int .i64 9, .func (.func 53) #[.agg G] #[]] W (Makes 3 1 L.length (i64s L) W) from HC.out W)
  clear HC
  go_enter Try.func15, Try.ntmps15
  go_wp2_with fail
  refine Calls.mono C0.out ?_
  rintro e1 w1 ⟨rfl, hb1⟩
  replace hb1 := Lib.hid hb1
  go_wp2_with fail
  refine Calls.mono (HC2.out _) ?_
  rintro e2 w2 ⟨A', c', rfl, hf, hb2⟩
  have HB2 := Lib.hid (below_trans hb1.out hb2 (Nat.le_refl _))
  have HS := hb1.out.size
  clear hb2
  go_wp2_with fail
  go_ret
  exact ⟨A', c', rfl, ⟨hf.1, fun h => ⟨own_base (hf.2 h).1 HS, (hf.2 h).2⟩⟩, HB2.out⟩
end Go.Proofs.Ytcankpiidjhhpaa
