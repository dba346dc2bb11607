/- Fun, Own2, LabS, Join, MapB, LabOf, what is needed of it. -/
import Derived.Test.YtcankpiidjhhpaaYGb
import Derived.Deep.LoopGhost
import Derived.Test.YtcankpiidjhhpaaYMask
import Derived.Test.YtcankpiidjhhpaaYGa
import Derived.Handy
import Derived.Test.YtcankpiidjhhpaaYCore
import Derived.Maps.Own
import Derived.Maps.OwnOps
import Derived.Maps.OwnSet
import Derived.Maps.Views
import Derived.WalkArith
namespace Go.Proofs.Ytcankpiidjhhpaa
open Go Go.ChangeShapes Go.WideShapes Go.ChangeAt Go.RowKit Go.Lib
set_option linter.unusedVariables false
set_option maxRecDepth 100000
/-- A call of g enters g. -/
def Enters (P : Program) (g : Nat) : Prop := ∀ args w, (callFunc g args).run P w = .ok (.enter g args) w
theorem Enters.out {P : Program} {g : Nat} (h : Enters P g) : ∀ args w, (callFunc g args).run P w = .ok (.enter g args) w := h
/-- Called on an element of the list, in whatever world in which all that lay in w lies as it did, it answers p and leaves what was there. -/
def PredB {α : Type} (P : Program) (g : Nat) (lb : Array Value) (enc : α → Value) (p : α → Bool) (l : List α) (w : World) : Prop :=
 ∀ (W : World) (x : α), x ∈ l → Below w.heap.size w W → Calls P g (#[enc x] ++ lb) W (Says (.bool (p x)) W)
theorem own_newer {w w' : World} {base size n : Nat} {e : TypeId} {v : Value} {xs : List Value} (h : w.ownsRow base e size v n xs) (hb : Below w.heap.size w w') : w'.ownsRow base e size v n xs := by
 refine ⟨h.1, ?_⟩
 rcases h.2 with h0 | ⟨g, cap, cur, hv, hg, hh, rest⟩
 ·
  exact .inl h0
 ·
  exact .inr ⟨g, cap, cur, hv, hg, (hb.block g (Array.getElem?_eq_some_iff.1 hh).1).trans hh, rest⟩
theorem own_base {w : World} {base base' size n : Nat} {e : TypeId} {v : Value} {xs : List Value} (h : w.ownsRow base e size v n xs) (hb : base' ≤ base) : w.ownsRow base' e size v n xs := by
 refine ⟨h.1, ?_⟩
 rcases h.2 with h0 | ⟨g, cap, cur, hv, hg, rest⟩
 ·
  exact .inl h0
 ·
  exact .inr ⟨g, cap, cur, hv, Nat.le_trans hb hg, rest⟩
theorem mem_of_get {α : Type} {l : List α} {k : Nat} {x : α} (h : l[k]? = some x) : x ∈ l := List.mem_of_getElem? h
/-- The first place at which p holds, or -1. -/
def idxP {α : Type} (p : α → Bool) (l : List α) : Int := match l.findIdx? p with | some i => i | none => -1
theorem any_step {α : Type} {p : α → Bool} {l : List α} {k : Nat} {x : α} (h : (l.take k).any p = false) (hz : l[k]? = some x) (hq : p x = false) : (l.take (k + 1)).any p = false := by
 rw [List.take_add_one, hz, List.any_append, h]; simp [hq]
theorem idxP_miss {α : Type} {p : α → Bool} {l : List α} (h : l.any p = false) : idxP p l = -1 := by
 unfold idxP
 rw [List.findIdx?_eq_none_iff.2 (fun x hx => by
  have := List.any_eq_false.1 h x hx
  simpa using this)]
theorem idxP_hit {α : Type} {p : α → Bool} {l : List α} {k : Nat} {x : α} (h : (l.take k).any p = false) (hz : l[k]? = some x) (hq : p x = true) : idxP p l = k := by
 unfold idxP
 have hk : k < l.length := (List.getElem?_eq_some_iff.1 hz).1
 rw [List.findIdx?_eq_some_iff_getElem.2 ⟨hk, by
  have := (List.getElem?_eq_some_iff.1 hz).2
  rw [this]; exact hq, fun j hj => by
  have hm : l[j] ∈ l.take k := by
   rw [List.mem_take_iff_getElem]
   exact ⟨j, by omega, rfl⟩
  have := List.any_eq_false.1 h _ hm
  simpa using this⟩]
theorem idxP_nonneg {α : Type} {p : α → Bool} {l : List α} (h : l.any p = true) : 0 ≤ idxP p l := by
 unfold idxP
 cases hf : l.findIdx? p with
 | some i => simp
 | none =>
  rw [List.findIdx?_eq_none_iff] at hf
  obtain ⟨x, hx, hp⟩ := List.any_eq_true.1 h
  have := hf x hx
  rw [hp] at this; cases this
end Go.Proofs.Ytcankpiidjhhpaa
namespace Go.Proofs.Ytcankpiidjhhpaa
open Go Go.ChangeShapes Go.WideShapes Go.ChangeAt Go.RowKit Go.Lib
set_option linter.unusedVariables false
set_option linter.unusedSimpArgs false
set_option maxRecDepth 100000
def PredM {α : Type} (P : Program) (g : Nat) (mv : Value) (enc : α → Value) (p : α → Bool) (l : List α) (w : World) : Prop :=
 ∀ (W : World) (x : α), x ∈ l → Below w.heap.size w W → Calls P g #[mv, enc x] W (Says (.bool (p x)) W)
def rangeI (a : Int) (n : Nat) : List Int := (List.range n).map fun k : Nat => a + (k : Int)
theorem rangeI_len (a : Int) (n : Nat) : (rangeI a n).length = n := by simp [rangeI]
theorem rangeI_get (a : Int) {n k : Nat} (h : k < n) : (rangeI a n)[k]? = some (a + (k : Int)) := by simp [rangeI, h]
theorem rangeI_mem {a x : Int} {n : Nat} (h : x ∈ rangeI a n) : ∃ k : Nat, k < n ∧ x = a + (k : Int) := by
 simp [rangeI] at h
 obtain ⟨k, hk, rfl⟩ := h
 exact ⟨k, hk, rfl⟩
theorem info_intN : (Try.prog.info? 3).map (fun i => (i.zero, i.size, i.bytes)) = some (some (.int .i64 0), 1, 8) := by kernel_rfl
theorem one_intN (z : Int) : ∀ u ∈ (#[Value.int .i64 z]).toList, u.oneCell' = true := by
 intro u hu
 simp only [List.mem_singleton] at hu
 subst hu
 rfl
theorem filt_snoc {α : Type} {p : α → Bool} {l : List α} {k : Nat} {x : α} (h : l[k]? = some x) : (l.take (k + 1)).filter p = if p x = true then (l.take k).filter p ++ [x] else (l.take k).filter p := by
 rw [List.take_add_one, h, Option.toList_some, List.filter_append]
 by_cases hp : p x = true <;> simp [hp]
set_option maxHeartbeats 8000000 in
theorem numbers_Own (p : Int → Bool) (mv : Value) (low : Int) (cnt : Nat) (w : World) (hl0 : 0 ≤ low) (hl1 : low ≤ 1000) (hc : cnt ≤ 1048576) (hp : PredM Try.prog 62 mv (fun x : Int => .int .i64 x) p (rangeI low cnt) w) :
  Calls Try.prog 60 #[.int .i64 low, .int .i64 (low + cnt - 1), .func (.func 62) #[mv] #[]] w (Makes 3 1 ((rangeI low cnt).filter p).length (i64s ((rangeI low cnt).filter p)) w) := by
 have HP := Lib.hid hp
 clear hp
 have HRL := Lib.hid (rangeI_len low cnt)
 have HRG := Lib.hid (fun (k : Nat) (h : k < cnt) => rangeI_get low h)
 generalize rangeI low cnt = L at HP HRL HRG ⊢
 go_enter Try.func60, Try.ntmps60
 go_wp2_with fail
 go_loopw [7, 8] (fun v i wr => ∃ k : Nat, k ≤ cnt ∧ i = .int .i64 (low + (k : Int)) ∧ wr.ownsRow w.heap.size 3 1 v ((L.take k).filter p).length (i64s ((L.take k).filter p)) ∧ Below w.heap.size w wr) (fun _ i _ => (low + cnt - intOf i).toNat)
 case atStart => exact ⟨0, Nat.zero_le _, by (congr 1; simp), World.ownsRow_lit w #[] 0 (Nat.le_refl _) (by unfold maxLen; omega) rfl, (Below.refl _ _).alloc (Nat.le_refl _) _⟩
 case round =>
  obtain ⟨k, hk, rfl, hown, hb⟩ := hrel
  have HB := Lib.hid hb
  have HO := Lib.hid hown
  have HS := Lib.hid hb.size
  clear hown hb
  by_cases hlt : k < cnt
  ·
   have HE := Lib.hid (filt_snoc (p := p) (HRG.out k hlt))
   have HN := Lib.hid (Nat.le_trans (List.length_filter_le p (L.take k)) (List.length_take_le _ _))
   have HC := HP.out wr (low + (k : Int)) (mem_of_get (HRG.out k hlt)) HB.out
   have hle : low + (k : Int) ≤ low + (cnt : Int) - 1 := by omega
   have HQ := HE
   cases hq : p (low + (k : Int))
   ·
    rw [hq] at HC
    replace HC := Lib.hid HC
    have H2 := Lib.hid (by have := HE.out; rwa [if_neg (by rw [hq]; decide)] at this)
    clear hq HE HQ
    go_wp2_with (go_at_call 62; refine Calls.mono HC.out ?_; rintro e w1 ⟨rfl, hb1⟩; (have HB1 := Lib.hid (below_trans HB.out hb1 (Nat.le_refl _))); (have HO1 := Lib.hid (own_newer HO.out hb1)); clear hb1)
    go_roundw
    case rel => exact ⟨k + 1, by omega, by (congr 1; omega), by rw [H2.out]; exact HO1.out, HB1.out⟩
    case measure => simp [intOf]; omega
   ·
    rw [hq] at HC
    replace HC := Lib.hid HC
    have H2 := Lib.hid (by have := HE.out; rwa [if_pos hq] at this)
    clear hq HE HQ
    go_wp2_with (first | (go_at_call 62; refine Calls.mono HC.out ?_; rintro e w1 ⟨rfl, hb1⟩; (have HB1 := Lib.hid (below_trans HB.out hb1 (Nat.le_refl _))); (have HO1 := Lib.hid (own_newer HO.out hb1)); (have HS1 := Lib.hid HB1.out.size); clear hb1) | (at_builtin; refine wp_app_lit rfl _ _ _ rfl w.heap.size 3 (.int .i64 0) 1 8 Try.underlying29 info_intN rfl (by decide) _ _ _ rfl HO1.out #[.int .i64 (low + (k : Int))] 1 1 _ rfl (by simp) rfl (one_intN _) (by have := HN.out; unfold maxLen; omega) (by have := HN.out; omega) (by have := HS1.out; omega) ?_; intro v1 w2 ho1 hb1))
    have HO2 := Lib.hid (show w2.ownsRow w.heap.size 3 1 v1 ((L.take (k + 1)).filter p).length (i64s ((L.take (k + 1)).filter p)) by
     rw [H2.out]
     simpa using ho1)
    have HB2 := Lib.hid (HB1.out.trans hb1)
    clear ho1 hb1
    go_wp2_with fail
    go_roundw
    case rel => exact ⟨k + 1, by omega, by (congr 1; omega), HO2.out, HB2.out⟩
    case measure => simp [intOf]; omega
  ·
   obtain rfl : k = cnt := by omega
   have hle : low + (k : Int) - 1 < low + (k : Int) := by omega
   have HO2 := HO.out
   rw [List.take_of_length_le (by rw [HRL.out]; omega)] at HO2
   replace HO2 := Lib.hid HO2
   go_wp2_with fail
   go_ret
   exact makes_of_own HO2.out HB.out
def mOwn (x : Int) : List Int := (rangeI 1 9).filter fun o => mIsLabel x && mHas x o.toNat
theorem mOwn_len (x : Int) : (mOwn x).length ≤ 9 := Nat.le_trans (List.length_filter_le _ _) (Nat.le_of_eq (rangeI_len _ _))
theorem mOwn_mask (x : Int) : (rangeI 1 9).filter (fun o => mHas (if mIsLabel x then x else 0) o.toNat) = mOwn x := by
 unfold mOwn
 cases mIsLabel x
 ·
  simp [mHas]
 ·
  simp
set_option maxHeartbeats 8000000 in
theorem implOwn (x : Int) (w : World) : Calls Try.prog 12 #[.int .i64 x] w (Makes 3 1 (mOwn x).length (i64s (mOwn x)) w) := by
 have hmf : ∀ (fn : Fn) (first cap : Array Value) (w : World), (Instr.makeFunc fn first cap).run Try.prog w = .ok (.func fn first cap) w := fun _ _ _ _ => rfl
 have C0 := Lib.hid (fun W => impl_maskOf x W)
 have hb : 0 ≤ (if mIsLabel x then x else 0) ∧ (if mIsLabel x then x else 0) ≤ 1022 := by
  cases h : mIsLabel x
  ·
   simp
  ·
   simp only [mIsLabel, Bool.and_eq_true] at h
   have := inR_true.1 h.1
   simp; omega
 have hm := mOwn_mask x
 generalize (if mIsLabel x then x else 0) = b at C0 hb hm
 generalize mIsLabel x = v at C0
 generalize mOwn x = L at hm ⊢
 have HC := Lib.hid (fun W => numbers_Own (fun o => mHas b o.toNat) (.agg #[.int .i64 b, .bool v]) 1 9 W (by decide) (by decide) (by decide) (fun W' z hz _ => by
  obtain ⟨k, hk, rfl⟩ := rangeI_mem hz
  have e : (1 + (k : Int)) = ((k + 1 : Nat) : Int) := by omega
  rw [e]
  exact impl_has b v W' (k + 1) (by omega) (by omega) hb.1 hb.2))
 rw [hm] at HC
 clear hm hb
 have HC2 := Lib.hid (fun W => show Calls Try.prog 60 #[.int .i64 1, .int .i64 9, .func (.func 62) #[.agg #[.int .i64 b, .bool v]] #[]] W (Makes 3 1 L.length (i64s L) W) from HC.out W)
 clear HC
 go_enter Try.func12, Try.ntmps12
 go_wp2_with fail
 refine Calls.mono (C0.out _) ?_
 rintro e w1 ⟨rfl, hb1⟩
 replace hb1 := Lib.hid hb1
 go_wp2_with fail
 refine Calls.mono (HC2.out _) ?_
 rintro e w2 ⟨A', c', rfl, hf, hb2⟩
 have HB2 := Lib.hid (below_trans hb1.out hb2 (Nat.le_refl _))
 have HS := hb1.out.size
 clear hb2
 go_wp2_with fail
 go_ret
 exact ⟨A', c', rfl, ⟨hf.1, fun h => ⟨own_base (hf.2 h).1 HS, (hf.2 h).2⟩⟩, HB2.out⟩
theorem impl_OwnersIn (x : Int) (w : World) (wf : (Lit.int .i64 x).wf = true) : Calls Try.prog 12 #[.int .i64 x] w (Makes 3 1 (mOwn x).length (i64s (mOwn x)) w) := implOwn x w
end Go.Proofs.Ytcankpiidjhhpaa
namespace Go.Proofs.Ytcankpiidjhhpaa
open Go Go.ChangeShapes Go.WideShapes Go.ChangeAt Go.RowKit Go.Lib
set_option linter.unusedVariables false
set_option linter.unusedSimpArgs false
set_option maxRecDepth 100000
def mLabS (l : List Int) : Nat → Nat
 | 0 => 0
 | k + 1 => mLabS l k + if ((k : Int) + 1) ∈ l then 2 ^ (k + 1) else 0
theorem mLabS_le (l : List Int) (k : Nat) : mLabS l k + 2 ≤ 2 ^ (k + 1) := by
 induction k with
 | zero => simp [mLabS]
 | succ k ih =>
  have e : 2 ^ (k + 1 + 1) = 2 ^ (k + 1) + 2 ^ (k + 1) := by rw [Nat.pow_succ, Nat.mul_two]
  simp only [mLabS]
  split <;> omega
end Go.Proofs.Ytcankpiidjhhpaa
namespace Go.Proofs.Ytcankpiidjhhpaa
open Go Go.ChangeShapes Go.WideShapes Go.ChangeAt Go.RowKit Go.Lib
set_option linter.unusedVariables false
set_option linter.unusedSimpArgs false
set_option maxRecDepth 100000
theorem or_nat (a b : Nat) (ha : a < 1024) (hb : b < 1024) : bits .or .i64 (a : Int) (b : Int) = ((a ||| b : Nat) : Int) := by
 have h2 : bits .or .i64 (a : Int) (b : Int) = IntKind.i64.wrap ((BitVec.ofInt 64 (a : Int) ||| BitVec.ofInt 64 (b : Int)).toNat : Int) := rfl
 have h3 : ∀ m : Nat, m < 1024 → (BitVec.ofInt 64 (m : Int)).toNat = m := fun m hm => by
  rw [BitVec.ofInt_natCast, BitVec.toNat_ofNat]; exact Nat.mod_eq_of_lt (by omega)
 have hlt : a ||| b < 2 ^ 10 := Nat.or_lt_two_pow (by simpa using ha) (by simpa using hb)
 rw [h2, BitVec.toNat_or, h3 a ha, h3 b hb]
 exact IntWalk.i64_in _ (by omega)
def mJoin (x y : Int) : Int := if mIsLabel x && mIsLabel y then bits .or .i64 x y else 0
set_option maxHeartbeats 4000000 in
theorem impl_join (b0 b1 : Int) (v0 v1 : Bool) (w : World) : Calls Try.prog 120 #[.agg #[.int .i64 b0, .bool v0], .agg #[.int .i64 b1, .bool v1]] w (Says (.agg #[.int .i64 (if v0 && v1 then bits .or .i64 b0 b1 else 0), .bool (v0 && v1)]) w) := by
 cases v0 <;> cases v1
 ·
  have HX : BoxAt (((w.alloc (.cells #[.int .i64 b0, .bool false] 82)).alloc (.cells #[.int .i64 b1, .bool false] 82)).alloc (.cells #[.int .i64 0, .bool false] 82)) (w.heap.size + 1 + 1) 82 #[.int .i64 0, .bool false] := by simpa using box_new ((w.alloc (.cells #[.int .i64 b0, .bool false] 82)).alloc (.cells #[.int .i64 b1, .bool false] 82)) 82 #[.int .i64 0, .bool false]
  have HB := Lib.hid ((((Below.refl w.heap.size w).alloc (Nat.le_refl _) (.cells #[.int .i64 b0, .bool false] 82)).alloc (by simp) (.cells #[.int .i64 b1, .bool false] 82)).alloc (by simp; omega) (.cells #[.int .i64 0, .bool false] 82))
  replace HX := Lib.hid HX
  go_enter Try.func120, Try.ntmps120
  go_wp2_with fail
  have k0 := HX.out.at_ (j := 0) rfl
  have k1 := HX.out.at_ (j := 1) rfl
  exact bodyPost_ret (v := .agg #[.int .i64 0, .bool false]) (by simp [results, Try.results120, go_sem, k0, k1]) rfl ⟨rfl, HB.out⟩
 ·
  have HX : BoxAt (((w.alloc (.cells #[.int .i64 b0, .bool false] 82)).alloc (.cells #[.int .i64 b1, .bool true] 82)).alloc (.cells #[.int .i64 0, .bool false] 82)) (w.heap.size + 1 + 1) 82 #[.int .i64 0, .bool false] := by simpa using box_new ((w.alloc (.cells #[.int .i64 b0, .bool false] 82)).alloc (.cells #[.int .i64 b1, .bool true] 82)) 82 #[.int .i64 0, .bool false]
  have HB := Lib.hid ((((Below.refl w.heap.size w).alloc (Nat.le_refl _) (.cells #[.int .i64 b0, .bool false] 82)).alloc (by simp) (.cells #[.int .i64 b1, .bool true] 82)).alloc (by simp; omega) (.cells #[.int .i64 0, .bool false] 82))
  replace HX := Lib.hid HX
  go_enter Try.func120, Try.ntmps120
  go_wp2_with fail
  have k0 := HX.out.at_ (j := 0) rfl
  have k1 := HX.out.at_ (j := 1) rfl
  exact bodyPost_ret (v := .agg #[.int .i64 0, .bool false]) (by simp [results, Try.results120, go_sem, k0, k1]) rfl ⟨rfl, HB.out⟩
 ·
  have HX : BoxAt (((w.alloc (.cells #[.int .i64 b0, .bool true] 82)).alloc (.cells #[.int .i64 b1, .bool false] 82)).alloc (.cells #[.int .i64 0, .bool false] 82)) (w.heap.size + 1 + 1) 82 #[.int .i64 0, .bool false] := by simpa using box_new ((w.alloc (.cells #[.int .i64 b0, .bool true] 82)).alloc (.cells #[.int .i64 b1, .bool false] 82)) 82 #[.int .i64 0, .bool false]
  have HB := Lib.hid ((((Below.refl w.heap.size w).alloc (Nat.le_refl _) (.cells #[.int .i64 b0, .bool true] 82)).alloc (by simp) (.cells #[.int .i64 b1, .bool false] 82)).alloc (by simp; omega) (.cells #[.int .i64 0, .bool false] 82))
  replace HX := Lib.hid HX
  go_enter Try.func120, Try.ntmps120
  go_wp2_with fail
  have k0 := HX.out.at_ (j := 0) rfl
  have k1 := HX.out.at_ (j := 1) rfl
  exact bodyPost_ret (v := .agg #[.int .i64 0, .bool false]) (by simp [results, Try.results120, go_sem, k0, k1]) rfl ⟨rfl, HB.out⟩
 ·
  have HX : BoxAt (((w.alloc (.cells #[.int .i64 b0, .bool true] 82)).alloc (.cells #[.int .i64 b1, .bool true] 82)).alloc (.cells #[.int .i64 (bits .or .i64 b0 b1), .bool true] 82)) (w.heap.size + 1 + 1) 82 #[.int .i64 (bits .or .i64 b0 b1), .bool true] := by simpa using box_new ((w.alloc (.cells #[.int .i64 b0, .bool true] 82)).alloc (.cells #[.int .i64 b1, .bool true] 82)) 82 #[.int .i64 (bits .or .i64 b0 b1), .bool true]
  have HB := Lib.hid ((((Below.refl w.heap.size w).alloc (Nat.le_refl _) (.cells #[.int .i64 b0, .bool true] 82)).alloc (by simp) (.cells #[.int .i64 b1, .bool true] 82)).alloc (by simp; omega) (.cells #[.int .i64 (bits .or .i64 b0 b1), .bool true] 82))
  replace HX := Lib.hid HX
  go_enter Try.func120, Try.ntmps120
  go_wp2_with fail
  have k0 := HX.out.at_ (j := 0) rfl
  have k1 := HX.out.at_ (j := 1) rfl
  exact bodyPost_ret (v := .agg #[.int .i64 (bits .or .i64 b0 b1), .bool true]) (by simp [results, Try.results120, go_sem, k0, k1]) rfl ⟨rfl, HB.out⟩
set_option maxHeartbeats 4000000 in
theorem impl_JoinLabels (x y : Int) (w : World) (wx : (Lit.int .i64 x).wf = true) (wy : (Lit.int .i64 y).wf = true) : Calls Try.prog 117 #[.int .i64 x, .int .i64 y] w (Says (.int .i64 (mJoin x y)) w) := by
 have C0 := fun W => impl_maskOf x W
 have C1 := fun W => impl_maskOf y W
 have HJ : mJoin x y = if mIsLabel x && mIsLabel y then bits .or .i64 (if mIsLabel x then x else 0) (if mIsLabel y then y else 0) else 0 := by
  unfold mJoin
  cases mIsLabel x <;> cases mIsLabel y <;> simp
 generalize (if mIsLabel x then x else 0) = b0 at C0 HJ
 generalize (if mIsLabel y then y else 0) = b1 at C1 HJ
 generalize mIsLabel x = v0 at C0 HJ
 generalize mIsLabel y = v1 at C1 HJ
 have C2 := fun W => impl_join b0 b1 v0 v1 W
 rw [← HJ] at C2
 generalize mJoin x y = z at C2 ⊢
 generalize (v0 && v1) = v2 at C2
 replace C0 := Lib.hid C0
 replace C1 := Lib.hid C1
 replace C2 := Lib.hid C2
 have fs : ∀ w, (Instr.field 82 (.agg #[.int .i64 z, .bool v2]) 0).run Try.prog w = .ok (.int .i64 z) w := fun _ => by kernel_rfl
 clear HJ wx wy
 go_enter Try.func117, Try.ntmps117
 go_wp2_with fail
 refine Calls.mono (C0.out _) ?_
 rintro e w1 ⟨rfl, hb1⟩
 replace hb1 := Lib.hid hb1
 go_wp2_with fail
 refine Calls.mono (C1.out _) ?_
 rintro e w2 ⟨rfl, hb2⟩
 have HB2 := Lib.hid (below_trans hb1.out hb2 (Nat.le_refl _))
 clear hb2
 go_wp2_with fail
 refine Calls.mono (C2.out _) ?_
 rintro e w3 ⟨rfl, hb3⟩
 have HB3 := Lib.hid (below_trans HB2.out hb3 (Nat.le_refl _))
 clear hb3
 go_wp2_with fail
 go_ret
 exact ⟨rfl, HB3.out⟩
end Go.Proofs.Ytcankpiidjhhpaa
namespace Go.Proofs.Ytcankpiidjhhpaa
open Go Go.ChangeShapes Go.WideShapes Go.ChangeAt Go.RowKit Go.Lib Go.Maps
set_option linter.unusedVariables false
set_option linter.unusedSimpArgs false
set_option maxRecDepth 100000
theorem keyed_int : Keyed Try.prog 3 := int_keyed Try.underlying3
theorem zero_bool (w : World) : (zeroValue 4).run Try.prog w = .ok (.bool false) w := by kernel_rfl
theorem elem_bool {v : Value} {z : DataW Unit × List MemPlace} (h : plainElem Try.prog 4 v = some z) : ∃ x, v = .bool x ∧ z = (.lit (.bool x), []) := by
 unfold plainElem at h
 rw [Try.underlying4] at h
 cases v <;> simp at h
 exact ⟨_, rfl, h.symm⟩
theorem make_map_none (ht : Try.prog.underlying 93 = some (.map 3 4)) (w : World) :
  (Instr.makeMap 93 none).run Try.prog w = .ok (.map (some w.heap.size)) (w.alloc (.map #[] 0)) := by
 simp [Instr.makeMap, run_underlying ht]
/-- Block b is a map of at most n entries that says s. -/
def MapB (w : World) (b n : Nat) (s : Int → Bool) : Prop :=
 ∃ D : DataW Unit, w.ownsMap Try.prog 3 (plainElem Try.prog 4) b n D ∧ IsMap D ∧ ∀ id : Int, D.atKey (.int .i64 id) (.lit (.bool false)) = .lit (.bool (s id))
section
variable {w w' : World} {b n : Nat} {s s' : Int → Bool}
theorem MapB.lt (h : MapB w b n s) : b < w.heap.size := by
 obtain ⟨D, h1, _⟩ := h
 exact h1.lt
theorem MapB.keep (h : MapB w b n s) (e : w'.heap[b]? = w.heap[b]?) : MapB w' b n s := by
 obtain ⟨D, ⟨es, clock, hb, hF⟩, h2⟩ := h
 exact ⟨D, ⟨es, clock, e.trans hb, hF⟩, h2⟩
theorem MapB.new (h : MapB w b n s) (hb : Below w.heap.size w w') : MapB w' b n s := h.keep (hb.block b h.lt)
theorem MapB.congr_ (h : MapB w b n s) (e : ∀ id, s id = s' id) : MapB w b n s' := by
 have he : s = s' := funext e
 exact he ▸ h
theorem MapB.more {m : Nat} (h : MapB w b n s) (hm : n ≤ m) : MapB w b m s := by
 obtain ⟨D, h1, h2⟩ := h
 exact ⟨D, h1.mono hm, h2⟩
theorem mapB_made (w : World) : MapB (w.alloc (.map #[] 0)) w.heap.size 0 (fun _ => false) :=
 ⟨.map [], World.ownsMap_made _ _ _ _, isMap_empty, fun id => rfl⟩
theorem MapB.look (h : MapB w b n s) (ht : Try.prog.underlying 93 = some (.map 3 4)) (id : Int) (hw : (Lit.int .i64 id).wf = true) :
  (Instr.lookup 93 (.map (some b)) (.int .i64 id) false).run Try.prog w = .ok (.bool (s id)) w := by
 obtain ⟨D, h1, h2, h3⟩ := h
 obtain ⟨v, ps, hrun, hv⟩ := h1.lookup keyed_int ht (zero_bool w) (plainElem_bool Try.underlying4 false) (keyOf_int_mk Try.underlying3 hw)
 obtain ⟨x, rfl, hx⟩ := elem_bool hv
 rw [h3 id] at hx
 injection hx with hx _
 injection hx with hx
 injection hx with hx
 rw [hx]
 exact hrun
end
section
variable {w : World} {ops : Array Oper} {rest : List Oper} {o : Oper} {a : Act} {Q : Exit → Act → World → Prop}
/-- 'm[k] = v'. -/
theorem wp_mapb_put (hg : o.guard = none) (m x v : Operand) (t : TypeId) (hop : o.op = Op.mapUpdate t m x v) (ht : Try.prog.underlying t = some (.map 3 4)) (b n : Nat) (s : Int → Bool) (hm : a.eval m = .map (some b)) (h : MapB w b n s) (hn : n < maxLen)
  (id : Int) (y : Bool) (hx : a.eval x = .int .i64 id) (hv : a.eval v = .bool y) (hw : (Lit.int .i64 id).wf = true)
  (hK : ∀ w', MapB w' b (n + 1) (fun k => if k = id then y else s k) → w.grownBy w' (some b) → wpList Try.prog ops Q rest (a.put o.dst undef) w') : wpList Try.prog ops Q (o :: rest) a w := by
 obtain ⟨D, h1, h2, h3⟩ := h
 refine wpList_mapUpdate_own w hg m x v t hop 3 4 keyed_int ht _ b n D hm h1 hn (.int .i64 id) (.bool y) (.int .i64 id) hx hv (keyOf_int_mk Try.underlying3 hw) (.lit (.bool y)) [] (plainElem_bool Try.underlying4 y) ?_
 intro w' h4 h5
 refine hK w' ⟨_, h4, h2.put _ _, fun k => ?_⟩ h5
 by_cases e : k = id
 ·
  subst e
  simp only [if_true]
  exact atKey_put_same h2 (show WideAt.IsKeyLit (.int .i64 k) from trivial) _ _
 ·
  simp only [e, if_false]
  have hne : (Lit.int .i64 k) ≠ Lit.int .i64 id := fun h => by injection h with _ h; exact e h
  exact (atKey_put_other hne _ _).trans (h3 k)
end

end Go.Proofs.Ytcankpiidjhhpaa
namespace Go.Proofs.Ytcankpiidjhhpaa
open Go Go.ChangeShapes Go.WideShapes Go.ChangeAt Go.RowKit Go.Lib
set_option linter.unusedVariables false
set_option linter.unusedSimpArgs false
set_option maxRecDepth 100000
theorem mLabS_snoc (l : List Int) (z : Int) (k : Nat) : mLabS (l ++ [z]) k = mLabS l k + if 1 ≤ z ∧ z ≤ (k : Int) ∧ ¬ z ∈ l then 2 ^ z.toNat else 0 := by
 induction k with
 | zero =>
  simp only [mLabS]
  rw [if_neg (by omega)]
 | succ k ih =>
  simp only [mLabS, ih, List.mem_append, List.mem_singleton]
  by_cases hz : z = (k : Int) + 1
  ·
   subst hz
   have e : ((k : Int) + 1).toNat = k + 1 := by omega
   rw [if_neg (by omega), e]
   by_cases hm : ((k : Int) + 1) ∈ l
   ·
    rw [if_pos (Or.inl hm), if_pos hm, if_neg (by intro h; exact h.2.2 hm)] <;> omega
   ·
    rw [if_pos (Or.inr rfl), if_neg hm, if_pos ⟨by omega, by omega, hm⟩] <;> omega
  ·
   have h1 : (((k : Int) + 1) ∈ l ∨ (k : Int) + 1 = z) ↔ ((k : Int) + 1) ∈ l := ⟨fun h => h.elim id (fun h => absurd h.symm hz), Or.inl⟩
   have h2 : (1 ≤ z ∧ z ≤ (k : Int) ∧ ¬ z ∈ l) ↔ (1 ≤ z ∧ z ≤ ((k + 1 : Nat) : Int) ∧ ¬ z ∈ l) := by
    constructor
    ·
     rintro ⟨a, b, c⟩; exact ⟨a, by omega, c⟩
    ·
     rintro ⟨a, b, c⟩; exact ⟨a, by omega, c⟩
   simp only [h1, h2]
   omega
/-- What the map says when these owners have come by. -/
def sMet (l : List Int) (id : Int) : Bool := decide (id ∈ l) && inR id 1 9
theorem sMet_off {l : List Int} {z : Int} (h : inR z 1 9 = false) (id : Int) : sMet l id = sMet (l ++ [z]) id := by
 unfold sMet
 by_cases e : id = z
 ·
  subst e; rw [h]; simp
 ·
  simp [e]
theorem sMet_on {l : List Int} {z : Int} (h : inR z 1 9 = true) (id : Int) : (if id = z then true else sMet l id) = sMet (l ++ [z]) id := by
 unfold sMet
 by_cases e : id = z
 ·
  subst e; rw [h]; simp
 ·
  simp [e]
theorem sMet_in {l : List Int} {z : Int} (h : sMet l z = true) (id : Int) : sMet l id = sMet (l ++ [z]) id := by
 unfold sMet at *
 by_cases e : id = z
 ·
  subst e
  simp at h
  simp [h.1]
 ·
  simp [e]
theorem lab_same {l : List Int} {z : Int} (h : inR z 1 9 = false ∨ sMet l z = true) : mLabS (l ++ [z]) 9 = mLabS l 9 := by
 rw [mLabS_snoc, if_neg]
 ·
  rfl
 ·
  rintro ⟨h1, h2, h3⟩
  rcases h with h | h
  ·
   have h9 : z ≤ 9 := h2
   rw [inR_true.2 ⟨h1, h9⟩] at h; cases h
  ·
   unfold sMet at h; simp at h; exact h3 h.1
theorem lab_new {l : List Int} {z : Int} (h : inR z 1 9 = true) (h2 : sMet l z = false) : mLabS (l ++ [z]) 9 = mLabS l 9 + 2 ^ z.toNat := by
 have hb := inR_true.1 h
 rw [mLabS_snoc, if_pos]
 refine ⟨hb.1, hb.2, fun hm => ?_⟩
 unfold sMet at h2
 rw [h, decide_eq_true hm] at h2
 cases h2
theorem take_snoc {l : List Int} {k : Nat} {z : Int} (h : l[k]? = some z) : l.take (k + 1) = l.take k ++ [z] := by rw [List.take_add_one, h]; rfl
set_option maxHeartbeats 16000000 in
theorem implLabelOf (l : List Int) (A : Option Addr) (n c lo hi : Nat) (w : World) (hn : n ≤ 1048576) (hr : Rd w lo hi 1 A n (i64s l)) (b0 : Hid (I64s l)) :
  Calls Try.prog 13 #[.slice A n c] w (Says (.int .i64 ((mLabS l 9 : Nat) : Int)) w) := by
 have HT : Hid (Try.prog.underlying 93 = some (.map 3 4)) := Lib.hid Try.underlying93
 have hmk : ∀ W, (Instr.makeMap 93 none).run Try.prog W = .ok (.map (some W.heap.size)) (W.alloc (.map #[] 0)) := make_map_none Try.underlying93
 have HR := Lib.hid hr
 have HL := Lib.hid (show l.length = n by have := hr.1; simpa [i64s] using this)
 have HLe := Lib.hid (fun m : List Int => show mLabS m 9 + 2 ≤ 1024 from mLabS_le m 9)
 clear hr
 go_enter Try.func13, Try.ntmps13
 go_wp2_with fail
 go_loopg [4, 10] n (fun gg lv i wr => ∃ (k m : Nat), k ≤ n ∧ n - k ≤ gg ∧ i = .int .i64 k ∧ lv = .int .i64 m ∧ Hid (mLabS (l.take k) 9 = m) ∧ Hid (MapB wr w.heap.size k (sMet (l.take k))) ∧ Hid (Below w.heap.size w wr))
 case atStart => exact ⟨0, 0, Nat.zero_le _, by omega, rfl, rfl, Lib.hid (by rw [List.take_zero]; decide), Lib.hid ((mapB_made w).congr_ (fun id => by simp [sMet])), Lib.hid ((Below.refl _ _).alloc (Nat.le_refl _) _)⟩
 case round =>
  obtain ⟨k, m, hk, hg, rfl, rfl, HM, HP, HB⟩ := hrel
  by_cases hlt : k < n
  ·
   obtain ⟨b, off, z, rfl, _, _, hz, hc⟩ := rd_int (HR.out.new HB.out) hlt
   have c0 : wr.cell? ⟨b, off + k, none⟩ = some (.int .i64 z) := hc
   have hzb := b0.out z (List.mem_of_getElem? hz)
   have HTk := Lib.hid (take_snoc hz)
   have hwf : (Lit.int .i64 z).wf = true := WalkArith.wf_i64 hzb
   have HLk := HP.out.look HT.out z hwf
   have C1 := fun W => impl_in z 1 9 W
   have HS0 := Lib.hid (fun (h : inR z 1 9 = false ∨ sMet (l.take k) z = true) => (lab_same h).trans HM.out)
   have HS1 := Lib.hid (fun (h : inR z 1 9 = true) (h2 : sMet (l.take k) z = false) => by have := lab_new h h2; rwa [HM.out] at this)
   have hz9 : inR z 1 9 = true → 1 ≤ z ∧ z ≤ 9 := fun h => inR_true.1 h
   have Hoff := Lib.hid (fun (h : inR z 1 9 = false) => HP.out.congr_ (sMet_off h))
   have Hin := Lib.hid (fun (h : sMet (l.take k) z = true) => HP.out.congr_ (sMet_in h))
   have Hon := Lib.hid (fun (h : inR z 1 9 = true) id => sMet_on (l := l.take k) h id)
   clear hz hc
   cases hq : sMet (l.take k) z with
   | true =>
    rw [hq] at HLk
    have HE := Lib.hid (HS0.out (.inr hq))
    have HP2 := Lib.hid (Hin.out hq)
    clear hq HS0 HS1 Hoff Hin Hon hz9
    go_wp2_with fail
    go_roundg (n - (k + 1))
    case measure => omega
    case rel => exact ⟨k + 1, m, by omega, by omega, by go_num, rfl, by rw [HTk.out]; exact HE, by rw [HTk.out]; exact Lib.hid (HP2.out.more (by omega)), HB⟩
   | false =>
    rw [hq] at HLk
    have hq2 := Lib.hid hq
    clear hq
    cases hi : inR z 1 9 with
    | false =>
     rw [hi] at C1
     have HE := Lib.hid (HS0.out (.inl hi))
     have HP2 := Lib.hid (Hoff.out hi)
     clear hi HS0 HS1 Hoff Hin Hon hz9
     go_wp2_with fail
     refine (C1 _).mono ?_
     rintro e w1 ⟨rfl, rfl⟩
     go_wp2_with fail
     go_roundg (n - (k + 1))
     case measure => omega
     case rel => exact ⟨k + 1, m, by omega, by omega, by go_num, rfl, by rw [HTk.out]; exact HE, by rw [HTk.out]; exact Lib.hid (HP2.out.more (by omega)), HB⟩
    | true =>
     rw [hi] at C1
     have HE := Lib.hid (HS1.out hi hq2.out)
     have Hon2 := Lib.hid (Hon.out hi)
     have hm2 : m + 2 ^ z.toNat ≤ 1022 := by have := HLe.out (l.take k ++ [z]); rw [HE.out] at this; omega
     have hz3 := hz9 hi
     clear hi HS0 HS1 Hoff Hin Hon hz9
     have hcase : z = 1 ∨ z = 2 ∨ z = 3 ∨ z = 4 ∨ z = 5 ∨ z = 6 ∨ z = 7 ∨ z = 8 ∨ z = 9 := by omega
     clear hz3
     rcases hcase with rfl | rfl | rfl | rfl | rfl | rfl | rfl | rfl | rfl
     all_goals
      simp at hm2
      go_wp2_with fail
      refine (C1 _).mono ?_
      rintro e w1 ⟨rfl, rfl⟩
      go_wp2_with (refine wp_mapb_put rfl _ _ _ _ rfl HT.out w.heap.size k _ rfl HP.out (by unfold maxLen; omega) _ true rfl rfl (by decide) ?_; intro w2 hp2 hg2; have HP2 := Lib.hid hp2; have HG2 := Lib.hid hg2; clear hp2 hg2)
      have HB2 := Lib.hid (HB.out.grown HG2.out HB.out.size (fun q hq => by injection hq with hq; omega))
      go_roundg (n - (k + 1))
      case measure => omega
      case rel => exact ⟨k + 1, _, by omega, by omega, by go_num, rfl, by rw [HTk.out]; exact Lib.hid (by rw [HE.out]; rfl), by rw [HTk.out]; exact Lib.hid (HP2.out.congr_ Hon2.out), HB2⟩
  ·
   obtain rfl : k = n := by omega
   have HE := Lib.hid (show mLabS l 9 = m by have := HM.out; rwa [List.take_of_length_le (by rw [HL.out]; omega)] at this)
   go_wp2_with fail
   go_ret
   exact ⟨by rw [HE.out]; rfl, HB.out⟩
end Go.Proofs.Ytcankpiidjhhpaa
