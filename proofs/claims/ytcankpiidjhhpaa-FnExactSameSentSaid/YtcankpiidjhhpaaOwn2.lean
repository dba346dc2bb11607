/- OwnersIn (with an owned row), of the program and of the model. -/
import Derived.Test.YtcankpiidjhhpaaMask
import Derived.Test.YtcankpiidjhhpaaFun
import Derived.Test.YtcankpiidjhhpaaSlI
import Derived.Handy
import Derived.Deep.LoopGhost
namespace Go.Proofs.Ytcankpiidjhhpaa
open Go Go.ChangeShapes Go.WideShapes Go.ChangeAt Go.RowKit Go.Lib
set_option linter.unusedVariables false
set_option linter.unusedSimpArgs false
set_option maxRecDepth 100000
def PredM {α : Type} (P : Program) (g : Nat) (mv : Value) (enc : α → Value) (p : α → Bool) (l : List α) (w : World) : Prop :=
 ∀ (W : World) (x : α), x ∈ l → Below w.heap.size w W → Calls P g #[mv, enc x] W (Says (.bool (p x)) W)
def rangeI (a : Int) (n : Nat) : List Int := (List.range n).map fun k : Nat => a + (k : Int)
theorem rangeI_len (a : Int) (n : Nat) : (rangeI a n).length = n := by simp [rangeI]
theorem rangeI_get (a : Int) {n k : Nat} (h : k < n) : (rangeI a n)[k]? = some (a + (k : Int)) := by simp [rangeI, h]
theorem rangeI_mem {a x : Int} {n : Nat} (h : x ∈ rangeI a n) : ∃ k : Nat, k < n ∧ x = a + (k : Int) := by
 simp [rangeI] at h
 obtain ⟨k, hk, rfl⟩ := h
 exact ⟨k, hk, rfl⟩
theorem info_intN : (Try.prog.info? 3).map (fun i => (i.zero, i.size, i.bytes)) = some (some (.int .i64 0), 1, 8) := by kernel_rfl
theorem one_intN (z : Int) : ∀ u ∈ (#[Value.int .i64 z]).toList, u.oneCell' = true := by
 intro u hu
 simp only [List.mem_singleton] at hu
 subst hu
 rfl
theorem filt_snoc {α : Type} {p : α → Bool} {l : List α} {k : Nat} {x : α} (h : l[k]? = some x) : (l.take (k + 1)).filter p = if p x = true then (l.take k).filter p ++ [x] else (l.take k).filter p := by
 rw [List.take_add_one, h, Option.toList_some, List.filter_append]
 by_cases hp : p x = true <;> simp [hp]
set_option maxHeartbeats 8000000 in
theorem numbers_Own (p : Int → Bool) (mv : Value) (low : Int) (cnt : Nat) (w : World) (hl0 : 0 ≤ low) (hl1 : low ≤ 1000) (hc : cnt ≤ 1048576) (hp : PredM Try.prog 62 mv (fun x : Int => .int .i64 x) p (rangeI low cnt) w) :
  Calls Try.prog 60 #[.int .i64 low, .int .i64 (low + cnt - 1), .func (.func 62) #[mv] #[]] w (Makes 3 1 ((rangeI low cnt).filter p).length (i64s ((rangeI low cnt).filter p)) w) := by
 have HP := Lib.hid hp
 clear hp
 have HRL := Lib.hid (rangeI_len low cnt)
 have HRG := Lib.hid (fun (k : Nat) (h : k < cnt) => rangeI_get low h)
 generalize rangeI low cnt = L at HP HRL HRG ⊢
 go_enter Try.func60, Try.ntmps60
 go_wp2_with fail
 go_loopw [7, 8] (fun v i wr => ∃ k : Nat, k ≤ cnt ∧ i = .int .i64 (low + (k : Int)) ∧ wr.ownsRow w.heap.size 3 1 v ((L.take k).filter p).length (i64s ((L.take k).filter p)) ∧ Below w.heap.size w wr) (fun _ i _ => (low + cnt - intOf i).toNat)
 case atStart => exact ⟨0, Nat.zero_le _, by (congr 1; simp), World.ownsRow_lit w #[] 0 (Nat.le_refl _) (by unfold maxLen; omega) rfl, (Below.refl _ _).alloc (Nat.le_refl _) _⟩
 case round =>
  obtain ⟨k, hk, rfl, hown, hb⟩ := hrel
  have HB := Lib.hid hb
  have HO := Lib.hid hown
  have HS := Lib.hid hb.size
  clear hown hb
  by_cases hlt : k < cnt
  ·
   have HE := Lib.hid (filt_snoc (p := p) (HRG.out k hlt))
   have HN := Lib.hid (Nat.le_trans (List.length_filter_le p (L.take k)) (List.length_take_le _ _))
   have HC := HP.out wr (low + (k : Int)) (mem_of_get (HRG.out k hlt)) HB.out
   have hle : low + (k : Int) ≤ low + (cnt : Int) - 1 := by omega
   have HQ := HE
   cases hq : p (low + (k : Int))
   ·
    rw [hq] at HC
    replace HC := Lib.hid HC
    have H2 := Lib.hid (by have := HE.out; rwa [if_neg (by rw [hq]; decide)] at this)
    clear hq HE HQ
    go_wp2_with (go_at_call 62; refine Calls.mono HC.out ?_; rintro e w1 ⟨rfl, hb1⟩; (have HB1 := Lib.hid (below_trans HB.out hb1 (Nat.le_refl _))); (have HO1 := Lib.hid (own_newer HO.out hb1)); clear hb1)
    go_roundw
    case rel => exact ⟨k + 1, by omega, by (congr 1; omega), by rw [H2.out]; exact HO1.out, HB1.out⟩
    case measure => simp [intOf]; omega
   ·
    rw [hq] at HC
    replace HC := Lib.hid HC
    have H2 := Lib.hid (by have := HE.out; rwa [if_pos hq] at this)
    clear hq HE HQ
    go_wp2_with (first | (go_at_call 62; refine Calls.mono HC.out ?_; rintro e w1 ⟨rfl, hb1⟩; (have HB1 := Lib.hid (below_trans HB.out hb1 (Nat.le_refl _))); (have HO1 := Lib.hid (own_newer HO.out hb1)); (have HS1 := Lib.hid HB1.out.size); clear hb1) | (at_builtin; refine wp_app_lit rfl _ _ _ rfl w.heap.size 3 (.int .i64 0) 1 8 Try.underlying29 info_intN rfl (by decide) _ _ _ rfl HO1.out #[.int .i64 (low + (k : Int))] 1 1 _ rfl (by simp) rfl (one_intN _) (by have := HN.out; unfold maxLen; omega) (by have := HN.out; omega) (by have := HS1.out; omega) ?_; intro v1 w2 ho1 hb1))
    have HO2 := Lib.hid (show w2.ownsRow w.heap.size 3 1 v1 ((L.take (k + 1)).filter p).length (i64s ((L.take (k + 1)).filter p)) by
     rw [H2.out]
     simpa using ho1)
    have HB2 := Lib.hid (HB1.out.trans hb1)
    clear ho1 hb1
    go_wp2_with fail
    go_roundw
    case rel => exact ⟨k + 1, by omega, by (congr 1; omega), HO2.out, HB2.out⟩
    case measure => simp [intOf]; omega
  ·
   obtain rfl : k = cnt := by omega
   have hle : low + (k : Int) - 1 < low + (k : Int) := by omega
   have HO2 := HO.out
   rw [List.take_of_length_le (by rw [HRL.out]; omega)] at HO2
   replace HO2 := Lib.hid HO2
   go_wp2_with fail
   go_ret
   exact makes_of_own HO2.out HB.out
def mOwn (x : Int) : List Int := (rangeI 1 9).filter fun o => mIsLabel x && mHas x o.toNat
theorem mOwn_len (x : Int) : (mOwn x).length ≤ 9 := Nat.le_trans (List.length_filter_le _ _) (Nat.le_of_eq (rangeI_len _ _))
theorem mOwn_mask (x : Int) : (rangeI 1 9).filter (fun o => mHas (if mIsLabel x then x else 0) o.toNat) = mOwn x := by
 unfold mOwn
 cases mIsLabel x
 ·
  simp [mHas]
 ·
  simp
set_option maxHeartbeats 8000000 in
theorem implOwn (x : Int) (w : World) : Calls Try.prog 12 #[.int .i64 x] w (Makes 3 1 (mOwn x).length (i64s (mOwn x)) w) := by
 have hmf : ∀ (fn : Fn) (first cap : Array Value) (w : World), (Instr.makeFunc fn first cap).run Try.prog w = .ok (.func fn first cap) w := fun _ _ _ _ => rfl
 have C0 := Lib.hid (fun W => impl_maskOf x W)
 have hb : 0 ≤ (if mIsLabel x then x else 0) ∧ (if mIsLabel x then x else 0) ≤ 1022 := by
  cases h : mIsLabel x
  ·
   simp
  ·
   simp only [mIsLabel, Bool.and_eq_true] at h
   have := inR_true.1 h.1
   simp; omega
 have hm := mOwn_mask x
 generalize (if mIsLabel x then x else 0) = b at C0 hb hm
 generalize mIsLabel x = v at C0
 generalize mOwn x = L at hm ⊢
 have HC := Lib.hid (fun W => numbers_Own (fun o => mHas b o.toNat) (.agg #[.int .i64 b, .bool v]) 1 9 W (by decide) (by decide) (by decide) (fun W' z hz _ => by
  obtain ⟨k, hk, rfl⟩ := rangeI_mem hz
  have e : (1 + (k : Int)) = ((k + 1 : Nat) : Int) := by omega
  rw [e]
  exact impl_has b v W' (k + 1) (by omega) (by omega) hb.1 hb.2))
 rw [hm] at HC
 clear hm hb
 have HC2 := Lib.hid (fun W => show Calls Try.prog 60 #[.int .i64 1, .int .i64 9, .func (.func 62) #[.agg #[.int .i64 b, .bool v]] #[]] W (Makes 3 1 L.length (i64s L) W) from HC.out W)
 clear HC
 go_enter Try.func12, Try.ntmps12
 go_wp2_with fail
 refine Calls.mono (C0.out _) ?_
 rintro e w1 ⟨rfl, hb1⟩
 replace hb1 := Lib.hid hb1
 go_wp2_with fail
 refine Calls.mono (HC2.out _) ?_
 rintro e w2 ⟨A', c', rfl, hf, hb2⟩
 have HB2 := Lib.hid (below_trans hb1.out hb2 (Nat.le_refl _))
 have HS := hb1.out.size
 clear hb2
 go_wp2_with fail
 go_ret
 exact ⟨A', c', rfl, ⟨hf.1, fun h => ⟨own_base (hf.2 h).1 HS, (hf.2 h).2⟩⟩, HB2.out⟩
theorem impl_OwnersIn (x : Int) (w : World) (wf : (Lit.int .i64 x).wf = true) : Calls Try.prog 12 #[.int .i64 x] w (Makes 3 1 (mOwn x).length (i64s (mOwn x)) w) := implOwn x w
theorem hasq {x z : Int} (h0 : 0 ≤ x) (hz : 0 < z) : Int.tdiv x z = x / z ∧ Int.tmod (x / z) 2 = x / z % 2 := by
 refine ⟨Int.tdiv_eq_ediv_of_nonneg h0, Int.tmod_eq_emod_of_nonneg (Int.ediv_nonneg h0 (by omega))⟩
set_option maxHeartbeats 8000000 in
theorem specOwnO (x : Int) (w : World) : Calls Try.prog 54 #[.int .i64 x] w (MakesO 3 1 (mOwn x).length (i64s (mOwn x)) w) := by
 have C0 := fun W => spec_IsLabel x W
 have hr : mIsLabel x = true → 0 ≤ x ∧ x ≤ 1022 := by
  intro h
  simp only [mIsLabel, Bool.and_eq_true] at h
  exact inR_true.1 h.1
 have hm : mOwn x = (rangeI 1 9).filter fun o => mIsLabel x && mHas x o.toNat := rfl
 rw [hm]
 clear hm
 have HRL := Lib.hid (rangeI_len 1 9)
 have HRG := Lib.hid (fun (k : Nat) (h : k < 9) => rangeI_get 1 h)
 generalize rangeI 1 9 = L at HRL HRG ⊢
 generalize mIsLabel x = r at C0 hr ⊢
 replace C0 := Lib.hid C0
 cases r
 ·
  rw [show (L.filter fun o => false && mHas x o.toNat) = [] by simp]
  clear hr HRL HRG
  go_enter Try.func54, Try.ntmps54
  go_wp2_with fail
  go_loopg [3, 4] 0 (fun gg v i wr => i = .int .i64 1 ∧ wr.ownsRow w.heap.size 3 1 v 0 [] ∧ Hid (Below w.heap.size w wr))
  case atStart => exact ⟨rfl, World.ownsRow_lit w #[] 0 (Nat.le_refl _) (by unfold maxLen; omega) rfl, Lib.hid ((Below.refl _ _).alloc (Nat.le_refl _) _)⟩
  case round =>
   obtain ⟨rfl, hown, HB⟩ := hrel
   have HO := Lib.hid hown
   clear hown
   go_wp2_with fail
   refine Calls.mono (C0.out _) ?_
   rintro e w1 ⟨rfl, hb1⟩
   have HB1 := Lib.hid (below_trans HB.out hb1 (Nat.le_refl _))
   have HO1 := Lib.hid (own_newer HO.out hb1)
   clear hb1
   go_wp2_with fail
   go_ret
   exact ⟨_, rfl, HO1.out, HB1.out⟩
 ·
  have hx := hr rfl
  clear hr
  generalize hp : (fun o : Int => true && mHas x o.toNat) = p
  have HP := Lib.hid (show ∀ k : Nat, p (1 + (k : Int)) = mHas x (k + 1) by
   rw [← hp]
   intro k
   simp [show (1 + (k : Int)).toNat = k + 1 by omega])
  clear hp
  go_enter Try.func54, Try.ntmps54
  go_wp2_with fail
  go_loopg [3, 4] 9 (fun gg v i wr => ∃ k : Nat, k ≤ 9 ∧ 9 - k ≤ gg ∧ i = .int .i64 ((k : Int) + 1) ∧ wr.ownsRow w.heap.size 3 1 v ((L.take k).filter p).length (i64s ((L.take k).filter p)) ∧ Hid (Below w.heap.size w wr))
  case atStart => exact ⟨0, Nat.zero_le _, by omega, rfl, World.ownsRow_lit w #[] 0 (Nat.le_refl _) (by unfold maxLen; omega) rfl, Lib.hid ((Below.refl _ _).alloc (Nat.le_refl _) _)⟩
  case round =>
   obtain ⟨k, hk, hg, rfl, hown, HB⟩ := hrel
   have HO := Lib.hid hown
   clear hown
   by_cases hlt : k < 9
   ·
    have hle : (k : Int) + 1 ≤ 9 := by omega
    have HN := Lib.hid (Nat.le_trans (List.length_filter_le p (L.take k)) (List.length_take_le _ _))
    have hE := filt_snoc (p := p) (HRG.out k hlt)
    rw [HP.out k] at hE
    have CB := fun W => spec_bit (k + 1) W (by omega)
    simp only [show ((k + 1 : Nat) : Int) = (k : Int) + 1 by omega] at CB
    unfold mHas at hE
    have hz0 : 0 < ((2 ^ (k + 1) : Nat) : Int) := by exact_mod_cast Nat.two_pow_pos (k + 1)
    generalize ((2 ^ (k + 1) : Nat) : Int) = z at CB hE hz0
    obtain ⟨q1, q2⟩ := hasq hx.1 hz0
    have b1 : 0 ≤ x / z := Int.ediv_nonneg hx.1 (by omega)
    have b2 : x / z ≤ x := Int.ediv_le_self _ hx.1
    have hne : z ≠ 0 := by omega
    have g0 : (z == 0) = false := by simp; omega
    generalize hq : x / z = q at q1 q2 hE b1 b2
    have hw : IntKind.i64.wrap q = q := IntWalk.i64_in _ (by omega)
    replace CB := Lib.hid CB
    clear hq
    cases hb : (q % 2 == 1)
    ·
     have g2 : (Int.tmod q 2 == 1) = false := by rw [q2]; exact hb
     have HF := Lib.hid (hE.trans (if_neg (by rw [hb]; decide)))
     clear hE q2
     go_wp2_with fail
     refine Calls.mono (C0.out _) ?_
     rintro e w1 ⟨rfl, hb1⟩
     have HB1 := Lib.hid (below_trans HB.out hb1 (Nat.le_refl _))
     have HO1 := Lib.hid (own_newer HO.out hb1)
     clear hb1
     go_wp2_with fail
     refine Calls.mono (CB.out _) ?_
     rintro e w2 ⟨rfl, rfl⟩
     go_wp2_with fail
     go_roundg (9 - (k + 1))
     case measure => omega
     case rel => exact ⟨k + 1, by omega, by omega, by go_num, by rw [HF.out]; exact HO1.out, HB1⟩
    ·
     have g2 : (Int.tmod q 2 == 1) = true := by rw [q2]; exact hb
     have HF := Lib.hid (hE.trans (if_pos hb))
     clear hE q2
     go_wp2_with fail
     refine Calls.mono (C0.out _) ?_
     rintro e w1 ⟨rfl, hb1⟩
     have HB1 := Lib.hid (below_trans HB.out hb1 (Nat.le_refl _))
     have HO1 := Lib.hid (own_newer HO.out hb1)
     have HS1 := Lib.hid HB1.out.size
     clear hb1
     go_wp2_with fail
     refine Calls.mono (CB.out _) ?_
     rintro e w2 ⟨rfl, rfl⟩
     go_wp2_with (at_builtin; refine wp_app_lit rfl _ _ _ rfl w.heap.size 3 (.int .i64 0) 1 8 Try.underlying29 info_intN rfl (by decide) _ _ _ rfl HO1.out #[.int .i64 ((k : Int) + 1)] 1 1 _ rfl (by simp) rfl (one_intN _) (by have := HN.out; unfold maxLen; omega) (by have := HN.out; omega) (by have := HS1.out; omega) ?_; intro v1 w2 ho1 hb1)
     have HO2 := Lib.hid (show w2.ownsRow w.heap.size 3 1 v1 ((L.take (k + 1)).filter p).length (i64s ((L.take (k + 1)).filter p)) by
      rw [HF.out, show (1 : Int) + (k : Int) = (k : Int) + 1 by omega]
      simpa using ho1)
     have HB2 := Lib.hid (HB1.out.trans hb1)
     clear ho1 hb1
     go_wp2_with fail
     go_roundg (9 - (k + 1))
     case measure => omega
     case rel => exact ⟨k + 1, by omega, by omega, by go_num, HO2.out, HB2⟩
   ·
    obtain rfl : k = 9 := by omega
    have HO2 := HO.out
    rw [List.take_of_length_le (by rw [HRL.out]; omega)] at HO2
    replace HO2 := Lib.hid HO2
    go_wp2_with fail
    go_ret
    exact ⟨_, rfl, HO2.out, HB.out⟩
theorem specOwn (x : Int) (w : World) : Calls Try.prog 54 #[.int .i64 x] w (Makes 3 1 (mOwn x).length (i64s (mOwn x)) w) := (specOwnO x w).mono (by
 rintro e w1 ⟨v, rfl, ho, hb⟩
 exact makes_of_own ho hb)
theorem spec_OwnersIn (x : Int) (w : World) (wf : (Lit.int .i64 x).wf = true) : Calls Try.prog 54 #[.int .i64 x] w (Makes 3 1 (mOwn x).length (i64s (mOwn x)) w) := specOwn x w
end Go.Proofs.Ytcankpiidjhhpaa
