/- JoinLabels, of the program and of the model. -/
import Derived.Test.YtcankpiidjhhpaaLabS
namespace Go.Proofs.Ytcankpiidjhhpaa
open Go Go.ChangeShapes Go.WideShapes Go.ChangeAt Go.RowKit Go.Lib
set_option linter.unusedVariables false
set_option linter.unusedSimpArgs false
set_option maxRecDepth 100000
def mSum (f : Nat → Bool) : Nat → Nat
 | 0 => 0
 | k + 1 => mSum f k + if f (k + 1) = true then 2 ^ (k + 1) else 0
theorem mLabS_sum (l : List Int) (f : Nat → Bool) (k : Nat) (hk : k ≤ 9) (h : ∀ j : Nat, j < 9 → (((j : Int) + 1) ∈ l ↔ f (j + 1) = true)) : mLabS l k = mSum f k := by
 induction k with
 | zero => rfl
 | succ k ih =>
  simp only [mLabS, mSum, ih (by omega), h k (by omega)]
theorem mSum_congr {f g : Nat → Bool} (k : Nat) (h : ∀ j, f j = g j) : mSum f k = mSum g k := by rw [funext h]
theorem mSum_self (m : Nat) (h0 : m ≤ 1022) (h1 : m % 2 = 0) : mSum (fun k => m / 2 ^ k % 2 == 1) 9 = m := by
 have h : ∀ k : Fin 1023, k.1 % 2 = 0 → mSum (fun j => k.1 / 2 ^ j % 2 == 1) 9 = k.1 := by decide +kernel
 exact h ⟨m, by omega⟩ h1
theorem mHas_nat (m k : Nat) : mHas (m : Int) k = m.testBit k := by
 rw [Nat.testBit_eq_decide_div_mod_eq]
 unfold mHas
 rw [show ((m : Int) / ((2 ^ k : Nat) : Int) % 2) = ((m / 2 ^ k % 2 : Nat) : Int) by rw [Int.natCast_emod, Int.natCast_ediv]; rfl]
 by_cases h : m / 2 ^ k % 2 = 1
 ·
  simp [h]
 ·
  have : m / 2 ^ k % 2 = 0 := by omega
  simp [this]
theorem or_nat (a b : Nat) (ha : a < 1024) (hb : b < 1024) : bits .or .i64 (a : Int) (b : Int) = ((a ||| b : Nat) : Int) := by
 have h2 : bits .or .i64 (a : Int) (b : Int) = IntKind.i64.wrap ((BitVec.ofInt 64 (a : Int) ||| BitVec.ofInt 64 (b : Int)).toNat : Int) := rfl
 have h3 : ∀ m : Nat, m < 1024 → (BitVec.ofInt 64 (m : Int)).toNat = m := fun m hm => by
  rw [BitVec.ofInt_natCast, BitVec.toNat_ofNat]; exact Nat.mod_eq_of_lt (by omega)
 have hlt : a ||| b < 2 ^ 10 := Nat.or_lt_two_pow (by simpa using ha) (by simpa using hb)
 rw [h2, BitVec.toNat_or, h3 a ha, h3 b hb]
 exact IntWalk.i64_in _ (by omega)
def mJoin (x y : Int) : Int := if mIsLabel x && mIsLabel y then bits .or .i64 x y else 0
theorem own_mem (x : Int) (hl : mIsLabel x = true) (j : Nat) (hj : j < 9) : ((j : Int) + 1) ∈ mOwn x ↔ mHas x (j + 1) = true := by
 unfold mOwn
 rw [List.mem_filter, hl, Bool.true_and, show (((j : Int) + 1)).toNat = j + 1 by omega]
 refine ⟨fun h => h.2, fun h => ⟨?_, h⟩⟩
 simp only [rangeI, List.mem_map, List.mem_range]
 exact ⟨j, hj, by omega⟩
theorem join_sum (x y : Int) (hx : mIsLabel x = true) (hy : mIsLabel y = true) : ((mLabS (mOwn x ++ mOwn y) 9 : Nat) : Int) = bits .or .i64 x y := by
 have bx := hx
 have by_ := hy
 simp only [mIsLabel, Bool.and_eq_true, beq_iff_eq] at bx by_
 have b1 := inR_true.1 bx.1
 have b2 := inR_true.1 by_.1
 rw [mLabS_sum _ (fun k => mHas x k || mHas y k) 9 (by omega) (fun j hj => by rw [List.mem_append, own_mem x hx j hj, own_mem y hy j hj, Bool.or_eq_true])]
 obtain ⟨a, rfl⟩ := Int.eq_ofNat_of_zero_le b1.1
 obtain ⟨b, rfl⟩ := Int.eq_ofNat_of_zero_le b2.1
 have ha : a < 1024 := by omega
 have hb : b < 1024 := by omega
 rw [or_nat a b ha hb]
 have hab : a ||| b < 1024 := Nat.or_lt_two_pow (n := 10) ha hb
 have hev : (a ||| b) % 2 = 0 := by
  have h0 : (a ||| b).testBit 0 = false := by
   rw [Nat.testBit_or, Nat.testBit_zero, Nat.testBit_zero]
   have : a % 2 = 0 := by omega
   have : b % 2 = 0 := by omega
   simp [*]
  rw [Nat.testBit_zero] at h0
  have : ¬ ((a ||| b) % 2 = 1) := by simpa using h0
  omega
 have hle : a ||| b ≤ 1022 := by omega
 rw [mSum_congr (g := fun k => (a ||| b) / 2 ^ k % 2 == 1) 9 (fun j => by
  rw [mHas_nat, mHas_nat, ← Nat.testBit_or, Nat.testBit_eq_decide_div_mod_eq]; rfl), mSum_self _ hle hev]
set_option maxHeartbeats 8000000 in
theorem spec_JoinLabels (x y : Int) (w : World) (wx : (Lit.int .i64 x).wf = true) (wy : (Lit.int .i64 y).wf = true) : Calls Try.prog 112 #[.int .i64 x, .int .i64 y] w (Says (.int .i64 (mJoin x y)) w) := by
 have C0 := fun W => spec_IsLabel x W
 have C1 := fun W => spec_IsLabel y W
 have HE := fun h0 h1 => join_sum x y h0 h1
 have O0 := fun W => specOwnO x W
 have O1 := fun W => specOwnO y W
 have N0 := mOwn_len x
 have N1 := mOwn_len y
 have HJ : mJoin x y = if mIsLabel x && mIsLabel y then bits .or .i64 x y else 0 := rfl
 generalize mOwn x = L0 at O0 N0 HE
 generalize mOwn y = L1 at O1 N1 HE
 generalize mIsLabel x = r0 at C0 HE HJ
 generalize mIsLabel y = r1 at C1 HE HJ
 replace C0 := Lib.hid C0
 replace C1 := Lib.hid C1
 replace O0 := Lib.hid O0
 replace O1 := Lib.hid O1
 cases r0
 ·
  replace HJ := Lib.hid (show mJoin x y = 0 from HJ)
  clear HE wx wy
  go_enter Try.func112, Try.ntmps112
  go_wp2_with fail
  refine Calls.mono (C0.out _) ?_
  rintro e w1 ⟨rfl, hb1⟩
  replace hb1 := Lib.hid hb1
  go_wp2_with fail
  go_ret
  exact ⟨by rw [HJ.out]; rfl, hb1.out⟩
 ·
  cases r1
  ·
   replace HJ := Lib.hid (show mJoin x y = 0 from HJ)
   clear HE wx wy
   go_enter Try.func112, Try.ntmps112
   go_wp2_with fail
   refine Calls.mono (C0.out _) ?_
   rintro e w1 ⟨rfl, hb1⟩
   replace hb1 := Lib.hid hb1
   go_wp2_with fail
   refine Calls.mono (C1.out _) ?_
   rintro e w2 ⟨rfl, hb2⟩
   have HB2 := Lib.hid (below_trans hb1.out hb2 (Nat.le_refl _))
   clear hb2
   go_wp2_with fail
   go_ret
   exact ⟨by rw [HJ.out]; rfl, HB2.out⟩
  ·
   replace HJ := Lib.hid (show mJoin x y = ((mLabS (L0 ++ L1) 9 : Nat) : Int) from HJ.trans (HE rfl rfl).symm)
   clear HE wx wy
   go_enter Try.func112, Try.ntmps112
   go_wp2_with fail
   refine Calls.mono (C0.out _) ?_
   rintro e w1 ⟨rfl, hb1⟩
   replace hb1 := Lib.hid hb1
   go_wp2_with fail
   refine Calls.mono (C1.out _) ?_
   rintro e w2 ⟨rfl, hb2⟩
   have HB2 := Lib.hid (below_trans hb1.out hb2 (Nat.le_refl _))
   clear hb2
   go_wp2_with fail
   refine Calls.mono (O0.out _) ?_
   rintro e w3 ⟨v3, rfl, ho3, hb3⟩
   have HB3 := Lib.hid (below_trans HB2.out hb3 (Nat.le_refl _))
   have HO3 := Lib.hid (own_base ho3 HB2.out.size)
   clear ho3 hb3
   go_wp2_with fail
   refine Calls.mono (O1.out _) ?_
   rintro e w4 ⟨v4, rfl, ho4, hb4⟩
   have HB4 := Lib.hid (below_trans HB3.out hb4 (Nat.le_refl _))
   have HO4 := Lib.hid (own_newer HO3.out hb4)
   obtain ⟨A4, c4, rfl, hF4⟩ := fr_of_own ho4
   have HR4 := Lib.hid hF4.rd
   clear ho4 hb4 hF4
   go_wp2_with (at_builtin; refine wp_app rfl _ _ _ rfl w.heap.size 3 (.int .i64 0) 1 8 Try.underlying29 info_intN rfl (by decide) _ _ _ rfl HO4.out _ _ A4 _ c4 (i64s L1) rfl HR4.out (ints_oneCell .i64 L1) (by unfold maxLen; omega) (by omega) HB4.out.size ?_; intro v5 w5 ho5 hb5 hg5 hn5; obtain ⟨A5, c5, rfl, hF5⟩ := fr_of_own ho5; (have HR5 := Lib.hid hF5.rd); (have HB5 := Lib.hid (HB4.out.trans hb5)); clear ho5 hb5 hg5 hn5 hF5)
   have HR6 := HR5.out
   rw [← List.map_append] at HR6
   replace HR6 := Lib.hid HR6
   go_wp2_with fail
   refine Calls.mono (spec_LabelOf (L0 ++ L1) A5 _ c5 _ _ _ (by omega) HR6.out) ?_
   rintro e w6 ⟨rfl, rfl⟩
   go_wp2_with fail
   go_ret
   exact ⟨by rw [HJ.out]; rfl, HB5.out⟩
set_option maxHeartbeats 4000000 in
theorem impl_join (b0 b1 : Int) (v0 v1 : Bool) (w : World) : Calls Try.prog 120 #[.agg #[.int .i64 b0, .bool v0], .agg #[.int .i64 b1, .bool v1]] w (Says (.agg #[.int .i64 (if v0 && v1 then bits .or .i64 b0 b1 else 0), .bool (v0 && v1)]) w) := by
 cases v0 <;> cases v1
 ·
  have HX : BoxAt (((w.alloc (.cells #[.int .i64 b0, .bool false] 82)).alloc (.cells #[.int .i64 b1, .bool false] 82)).alloc (.cells #[.int .i64 0, .bool false] 82)) (w.heap.size + 1 + 1) 82 #[.int .i64 0, .bool false] := by simpa using box_new ((w.alloc (.cells #[.int .i64 b0, .bool false] 82)).alloc (.cells #[.int .i64 b1, .bool false] 82)) 82 #[.int .i64 0, .bool false]
  have HB := Lib.hid ((((Below.refl w.heap.size w).alloc (Nat.le_refl _) (.cells #[.int .i64 b0, .bool false] 82)).alloc (by simp) (.cells #[.int .i64 b1, .bool false] 82)).alloc (by simp; omega) (.cells #[.int .i64 0, .bool false] 82))
  replace HX := Lib.hid HX
  go_enter Try.func120, Try.ntmps120
  go_wp2_with fail
  have k0 := HX.out.at_ (j := 0) rfl
  have k1 := HX.out.at_ (j := 1) rfl
  exact bodyPost_ret (v := .agg #[.int .i64 0, .bool false]) (by simp [results, Try.results120, go_sem, k0, k1]) rfl ⟨rfl, HB.out⟩
 ·
  have HX : BoxAt (((w.alloc (.cells #[.int .i64 b0, .bool false] 82)).alloc (.cells #[.int .i64 b1, .bool true] 82)).alloc (.cells #[.int .i64 0, .bool false] 82)) (w.heap.size + 1 + 1) 82 #[.int .i64 0, .bool false] := by simpa using box_new ((w.alloc (.cells #[.int .i64 b0, .bool false] 82)).alloc (.cells #[.int .i64 b1, .bool true] 82)) 82 #[.int .i64 0, .bool false]
  have HB := Lib.hid ((((Below.refl w.heap.size w).alloc (Nat.le_refl _) (.cells #[.int .i64 b0, .bool false] 82)).alloc (by simp) (.cells #[.int .i64 b1, .bool true] 82)).alloc (by simp; omega) (.cells #[.int .i64 0, .bool false] 82))
  replace HX := Lib.hid HX
  go_enter Try.func120, Try.ntmps120
  go_wp2_with fail
  have k0 := HX.out.at_ (j := 0) rfl
  have k1 := HX.out.at_ (j := 1) rfl
  exact bodyPost_ret (v := .agg #[.int .i64 0, .bool false]) (by simp [results, Try.results120, go_sem, k0, k1]) rfl ⟨rfl, HB.out⟩
 ·
  have HX : BoxAt (((w.alloc (.cells #[.int .i64 b0, .bool true] 82)).alloc (.cells #[.int .i64 b1, .bool false] 82)).alloc (.cells #[.int .i64 0, .bool false] 82)) (w.heap.size + 1 + 1) 82 #[.int .i64 0, .bool false] := by simpa using box_new ((w.alloc (.cells #[.int .i64 b0, .bool true] 82)).alloc (.cells #[.int .i64 b1, .bool false] 82)) 82 #[.int .i64 0, .bool false]
  have HB := Lib.hid ((((Below.refl w.heap.size w).alloc (Nat.le_refl _) (.cells #[.int .i64 b0, .bool true] 82)).alloc (by simp) (.cells #[.int .i64 b1, .bool false] 82)).alloc (by simp; omega) (.cells #[.int .i64 0, .bool false] 82))
  replace HX := Lib.hid HX
  go_enter Try.func120, Try.ntmps120
  go_wp2_with fail
  have k0 := HX.out.at_ (j := 0) rfl
  have k1 := HX.out.at_ (j := 1) rfl
  exact bodyPost_ret (v := .agg #[.int .i64 0, .bool false]) (by simp [results, Try.results120, go_sem, k0, k1]) rfl ⟨rfl, HB.out⟩
 ·
  have HX : BoxAt (((w.alloc (.cells #[.int .i64 b0, .bool true] 82)).alloc (.cells #[.int .i64 b1, .bool true] 82)).alloc (.cells #[.int .i64 (bits .or .i64 b0 b1), .bool true] 82)) (w.heap.size + 1 + 1) 82 #[.int .i64 (bits .or .i64 b0 b1), .bool true] := by simpa using box_new ((w.alloc (.cells #[.int .i64 b0, .bool true] 82)).alloc (.cells #[.int .i64 b1, .bool true] 82)) 82 #[.int .i64 (bits .or .i64 b0 b1), .bool true]
  have HB := Lib.hid ((((Below.refl w.heap.size w).alloc (Nat.le_refl _) (.cells #[.int .i64 b0, .bool true] 82)).alloc (by simp) (.cells #[.int .i64 b1, .bool true] 82)).alloc (by simp; omega) (.cells #[.int .i64 (bits .or .i64 b0 b1), .bool true] 82))
  replace HX := Lib.hid HX
  go_enter Try.func120, Try.ntmps120
  go_wp2_with fail
  have k0 := HX.out.at_ (j := 0) rfl
  have k1 := HX.out.at_ (j := 1) rfl
  exact bodyPost_ret (v := .agg #[.int .i64 (bits .or .i64 b0 b1), .bool true]) (by simp [results, Try.results120, go_sem, k0, k1]) rfl ⟨rfl, HB.out⟩
set_option maxHeartbeats 4000000 in
theorem impl_JoinLabels (x y : Int) (w : World) (wx : (Lit.int .i64 x).wf = true) (wy : (Lit.int .i64 y).wf = true) : Calls Try.prog 117 #[.int .i64 x, .int .i64 y] w (Says (.int .i64 (mJoin x y)) w) := by
 have C0 := fun W => impl_maskOf x W
 have C1 := fun W => impl_maskOf y W
 have HJ : mJoin x y = if mIsLabel x && mIsLabel y then bits .or .i64 (if mIsLabel x then x else 0) (if mIsLabel y then y else 0) else 0 := by
  unfold mJoin
  cases mIsLabel x <;> cases mIsLabel y <;> simp
 generalize (if mIsLabel x then x else 0) = b0 at C0 HJ
 generalize (if mIsLabel y then y else 0) = b1 at C1 HJ
 generalize mIsLabel x = v0 at C0 HJ
 generalize mIsLabel y = v1 at C1 HJ
 have C2 := fun W => impl_join b0 b1 v0 v1 W
 rw [← HJ] at C2
 generalize mJoin x y = z at C2 ⊢
 generalize (v0 && v1) = v2 at C2
 replace C0 := Lib.hid C0
 replace C1 := Lib.hid C1
 replace C2 := Lib.hid C2
 have fs : ∀ w, (Instr.field 82 (.agg #[.int .i64 z, .bool v2]) 0).run Try.prog w = .ok (.int .i64 z) w := fun _ => by kernel_rfl
 clear HJ wx wy
 go_enter Try.func117, Try.ntmps117
 go_wp2_with fail
 refine Calls.mono (C0.out _) ?_
 rintro e w1 ⟨rfl, hb1⟩
 replace hb1 := Lib.hid hb1
 go_wp2_with fail
 refine Calls.mono (C1.out _) ?_
 rintro e w2 ⟨rfl, hb2⟩
 have HB2 := Lib.hid (below_trans hb1.out hb2 (Nat.le_refl _))
 clear hb2
 go_wp2_with fail
 refine Calls.mono (C2.out _) ?_
 rintro e w3 ⟨rfl, hb3⟩
 have HB3 := Lib.hid (below_trans HB2.out hb3 (Nat.le_refl _))
 clear hb3
 go_wp2_with fail
 go_ret
 exact ⟨rfl, HB3.out⟩
end Go.Proofs.Ytcankpiidjhhpaa
