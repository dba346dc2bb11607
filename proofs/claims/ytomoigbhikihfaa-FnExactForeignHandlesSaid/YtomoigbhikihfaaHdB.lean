/- Chapter 8 in the program. -/
import Derived.Test.YtomoigbhikihfaaHdN
import Derived.Test.YtomoigbhikihfaaSgK
import Derived.Deep.RegionHeld3
import Derived.Deep.LoopGhost
namespace Go.Proofs.Ytomoigbhikihfaa
open Go Go.ChangeShapes Go.WideShapes Go.ChangeAt Go.RowKit Go.Lib
set_option linter.unusedVariables false
set_option linter.unusedSimpArgs false
set_option maxRecDepth 100000
def mHds (l : List TNode) (h : List Int) (s y : Int) : List Int := (mSeen l h y).map fun x => mHandle s y x.f0
theorem mHds_len (l : List TNode) (h : List Int) (s y : Int) : (mHds l h s y).length ≤ l.length := by unfold mHds; rw [List.length_map]; exact mSeen_len l h y
def hds (l : List TNode) (s y : Int) (k : Nat) : List Int := (l.take k).map fun x => mHandle s y x.f0
theorem hds_snoc {l : List TNode} {k : Nat} {x : TNode} (s y : Int) (h : l[k]? = some x) : hds l s y (k + 1) = hds l s y k ++ [mHandle s y x.f0] := by
  unfold hds; rw [List.take_add_one, h]; simp
theorem hds_len (l : List TNode) (s y : Int) (k : Nat) : (hds l s y k).length ≤ k := by unfold hds; rw [List.length_map]; exact List.length_take_le _ _
def mRes (l : List TNode) (h : List Int) (s y z : Int) : Int := match mFind (mSeen l h y) s y z with | some x => x.f0 | none => -1
def mFor (l : List TNode) (h : List Int) (s y : Int) (q : List Int) : Int := ((q.filter fun z => !(mFind (mSeen l h y) s y z).isSome).length : Int)
def eTx (id t y : Int) : TEdit := ⟨3, id, 0, 0, t, y⟩
def mEBH (l : List TNode) (h : List Int) (s z t y : Int) : List TNode := match mFind (mSeen l h y) s y z with | some x => mGuard l h (eTx x.f0 t y) | none => l
def mEBHok (l : List TNode) (h : List Int) (s z t y : Int) : Bool := match mFind (mSeen l h y) s y z with | some x => mGuardOk l h (eTx x.f0 t y) | none => false
theorem find_mem {l : List TNode} {s y z : Int} {x : TNode} (h : mFind l s y z = some x) : x ∈ l ∧ 0 ≤ x.f0 := by
  unfold mFind at h
  split at h
  · cases h
  · rename_i hz
    refine ⟨List.mem_of_find?_eq_some h, ?_⟩
    have hp := List.find?_some h
    unfold hits mHandle at hp
    split at hp
    · rename_i hi
      simp only [Bool.and_eq_true] at hi
      have := inR_true.1 hi.2
      omega
    · simp at hp; omega
theorem eTx_fit {l : List TNode} {h : List Int} {y s z t : Int} {x : TNode} (hok : cNodeOk l) (hx : mFind (mSeen l h y) s y z = some x) (ht : (Lit.int .i64 t).wf = true) (hy : (Lit.int .i64 y).wf = true) : TEdit.fit (eTx x.f0 t y) := by
  have h1 := (mSeen_ok (h := h) (b := y) hok) x (find_mem hx).1
  have h2 := bounds_i64 ht
  have h3 := bounds_i64 hy
  unfold TEdit.fit eTx
  refine ⟨by simp, h1.1, by simp, by simp, by simp only; omega, by simp only; omega⟩
theorem MapH.below_ {w w' : World} {b n B : Nat} {s y : Int} {g : Int → Int} (h : MapH w b n s y g) (hb : Below B w w') (hB : b < B) : MapH w' b n s y g := h.keep (hb.block b hB)
theorem mEBH_len {l : List TNode} {h : List Int} {s z t y : Int} (hok : cNodeOk l) (ht : (Lit.int .i64 t).wf = true) (hy : (Lit.int .i64 y).wf = true) : (mEBH l h s z t y).length ≤ l.length + 16 := by
  unfold mEBH
  split
  · rename_i x hx
    exact mGuard_len h hok (eTx_fit hok hx ht hy)
  · omega
set_option maxHeartbeats 8000000 in
theorem impl_HandlesForC (l0 : List TNode) (A0 : Option Addr) (n0 c0 lo0 hi0 : Nat) (l1 : List Int) (A1 : Option Addr) (n1 c1 lo1 hi1 : Nat) (a2 : Int) (a3 : Int) (w : World) (h0 : n0 ≤ 1048576) (r0 : Rd w lo0 hi0 5 A0 n0 (cNode l0)) (p0 : n0 ≤ c0) (b0 : Hid (cNodeOk l0)) (h1 : n1 ≤ 1048576) (r1 : Rd w lo1 hi1 1 A1 n1 (i64s l1)) (p1 : n1 ≤ c1) (b1 : Hid (I64s l1)) (w2 : (Lit.int .i64 a2).wf = true) (w3 : (Lit.int .i64 a3).wf = true) :
    Calls Try.prog 32 #[.slice A0 n0 c0, .slice A1 n1 c1, .int .i64 a2, .int .i64 a3] w (Makes 3 1 (mHds l0 l1 a2 a3).length (i64s (mHds l0 l1 a2 a3)) w) := by
  have W2 := Lib.hid w2
  have W3 := Lib.hid w3
  have CH := Lib.hid (fun (A : Option Addr) (m c M : Nat) (x : TNode) (n : Nat) W hid h hn => handle_any x A m c a2 a3 M n W w2 w3 hid h hn)
  go_enter Try.func32, Try.ntmps32
  go_wp2_with fail
  refine (ring_any l0 A0 n0 c0 lo0 hi0 l1 A1 n1 c1 lo1 hi1 a2 a3 w h0 r0 p0 b0 h1 r1 p1 b1 w2 w3).mono ?_
  rintro e1 u1 ⟨A, m, c, M, hm, rfl, hF, hM, hMl, hb1⟩
  have hmn : m ≤ n0 := by rw [hm]; have := mSeen_len l0 l1 a3; have := rd_len TNode.len r0 (by decide); omega
  have HLm := Lib.hid hm.symm
  have HF := Lib.hid hF.rd
  have HM := Lib.hid hM
  have HB := Lib.hid hb1
  have hMu := hM.lt
  have HOK := Lib.hid (mSeen_ok (h := l1) (b := a3) b0.out)
  clear hF hM hb1 hm
  have HE := Lib.hid (show mHds l0 l1 a2 a3 = hds (mSeen l0 l1 a3) a2 a3 m by unfold mHds hds; rw [List.take_of_length_le (by rw [HLm.out]; exact Nat.le_refl _)])
  have HV0 := Lib.hid (HB.out.alloc HB.out.size (.cells #[.slice A m c, .int .i64 a2, .int .i64 a3, .map (some M), (.func (.func 77) #[] #[])] 77))
  have KR := Lib.hid (box_new u1 77 #[.slice A m c, .int .i64 a2, .int .i64 a3, .map (some M), (.func (.func 77) #[] #[])])
  have HFv := Lib.hid (HF.out.alloc (.cells #[.slice A m c, .int .i64 a2, .int .i64 a3, .map (some M), (.func (.func 77) #[] #[])] 77))
  have HMv := Lib.hid (HM.out.alloc_ (.cells #[.slice A m c, .int .i64 a2, .int .i64 a3, .map (some M), (.func (.func 77) #[] #[])] 77))
  have hVs : ((u1.alloc (.cells #[.slice A m c, .int .i64 a2, .int .i64 a3, .map (some M), (.func (.func 77) #[] #[])] 77))).heap.size = u1.heap.size + 1 := by simp
  have HVs := Lib.hid hVs
  have HOv := Lib.hid (World.ownsRow_lit (e := 3) (size := 1) (u1.alloc (.cells #[.slice A m c, .int .i64 a2, .int .i64 a3, .map (some M), (.func (.func 77) #[] #[])] 77)) #[] 0 (Nat.le_refl _) (by unfold maxLen; omega) rfl)
  have hst := fun (W : World) (a : Addr) (cs : Array Value) (m : Mode) => store_fn W a 77 cs m
  clear r0 r1 w2 w3 hVs HB HF HM
  go_wp2_with fail
  clear hst
  generalize hV : (u1.alloc (.cells #[.slice A m c, .int .i64 a2, .int .i64 a3, .map (some M), (.func (.func 77) #[] #[])] 77)) = V at HV0 KR HFv HMv HVs HOv ⊢
  have hV1 : u1.heap.size + 1 = V.heap.size := HVs.out.symm
  clear hV
  rw [hV1]
  go_loopw [10, 22] (fun v i wr => ∃ (k j : Nat), i = .int .i64 k ∧ k ≤ m ∧ Hid (j ≤ k) ∧ Hid (MapH wr M j a2 a3 (mHandle a2 a3)) ∧ Hid (wr.ownsRow V.heap.size 3 1 v (hds (mSeen l0 l1 a3) a2 a3 k).length (i64s (hds (mSeen l0 l1 a3) a2 a3 k))) ∧ Hid (Chg M (M + 1) V wr)) (fun _ i _ => m - (intOf i).toNat)
  case atStart => exact ⟨0, 0, rfl, Nat.zero_le _, Lib.hid (Nat.le_refl _), Lib.hid (HMv.out.alloc_ _), HOv, Lib.hid ((Chg.refl _ _ _).alloc _)⟩
  case round =>
    obtain ⟨k, j, rfl, hk, HN, HMr, HO, HCr⟩ := hrel
    have HRr := Lib.hid (HFv.out.chg HCr.out (.inr (.inl (Nat.le_refl _))))
    have KRr := Lib.hid (KR.out.chg HCr.out (by omega))
    have q0 := KRr.out.at_ (j := 0) (u := .slice A m c) rfl
    have q1 := KRr.out.at_ (j := 1) (u := .int .i64 a2) rfl
    have q2 := KRr.out.at_ (j := 2) (u := .int .i64 a3) rfl
    have q3 := KRr.out.at_ (j := 3) (u := .map (some M)) rfl
    have q4 := KRr.out.at_ (j := 4) (u := (.func (.func 77) #[] #[])) rfl
    have hRl := KRr.out.lt
    have hMr := HMr.out.lt
    have hVr := HCr.out.size
    by_cases hlt : k < m
    · obtain ⟨b, off, x, rfl, _, _, hz, hc⟩ := rd_elem TNode.len HRr.out HLm.out hlt
      have c0' : wr.cell? ⟨b, off + k * 5, none⟩ = _ := hc 0 _ rfl
      have c1' := hc 1 _ rfl
      have c2' := hc 2 _ rfl
      have c3' := hc 3 _ rfl
      have c4' := hc 4 _ rfl
      have hbl : b < wr.heap.size := World.block_lt_of_cell? wr _ c0'
      have WX := Lib.hid (node_wf HOK.out hz).1
      have hn1 : j < maxLen := by have := HN.out; unfold maxLen; omega
      have HCC := Lib.hid (CH.out (some ⟨b, off, none⟩) m c M x j (wr.alloc (.cells #[.int .i64 x.f0, .int .i64 x.f1, .int .i64 x.f2, .int .i64 x.f3, .int .i64 x.f4] 54)) WX.out (HMr.out.alloc_ _) hn1)
      have H2 := Lib.hid (hds_snoc a2 a3 hz)
      have HKN := Lib.hid (hds_len (mSeen l0 l1 a3) a2 a3 k)
      clear hz hc
      generalize hq : mHandle a2 a3 x.f0 = q at H2
      have HQ := Lib.hid hq
      clear hq
      go_wp2_with (first | (go_at_call 58; refine HCC.out.mono ?_; rintro e2 u2 ⟨rfl, hM2, hc2⟩; rw [HQ.out]; have HM2 := Lib.hid hM2; have HC2 := Lib.hid ((HCr.out.alloc (.cells #[.int .i64 x.f0, .int .i64 x.f1, .int .i64 x.f2, .int .i64 x.f3, .int .i64 x.f4] 54)).trans hc2); have HO2 := Lib.hid (own_chg (HO.out.alloc (.cells #[.int .i64 x.f0, .int .i64 x.f1, .int .i64 x.f2, .int .i64 x.f3, .int .i64 x.f4] 54)) hc2 (by omega)); clear hM2 hc2) | (at_builtin; refine wp_app_lit rfl _ _ _ rfl V.heap.size 3 (.int .i64 0) 1 8 Try.underlying23 info_int rfl (by decide) _ _ _ rfl HO2.out #[.int .i64 q] 1 1 _ rfl (by simp) rfl (one_int _) (by have := HKN.out; unfold maxLen; omega) (by have := HKN.out; omega) (by have := HC2.out.size; omega) ?_; intro v1 u3 ho3 hb3))
      have HO3 := Lib.hid (show u3.ownsRow V.heap.size 3 1 v1 (hds (mSeen l0 l1 a3) a2 a3 (k + 1)).length (i64s (hds (mSeen l0 l1 a3) a2 a3 (k + 1))) by rw [H2.out]; simpa using ho3)
      have HC3 := Lib.hid (HC2.out.then_below hb3)
      have HM3 := Lib.hid (HM2.out.below_ hb3 (by omega))
      clear ho3 hb3 HCC
      go_wp2_with fail
      go_roundw
      case rel => exact ⟨k + 1, j + 1, by go_num, by omega, Lib.hid (by have := HN.out; omega), HM3, HO3, HC3⟩
      case measure => simp [intOf]; omega
    · obtain rfl : k = m := by omega
      go_wp2_with fail
      go_ret
      rw [HE.out]
      exact makes_of_own (own_base HO.out (by have := HV0.out.size; omega)) (HV0.out.trans (HCr.out.below (.inl hMl) (by have := HV0.out.size; omega)))
set_option maxHeartbeats 8000000 in
theorem impl_ResolveHandleC (l0 : List TNode) (A0 : Option Addr) (n0 c0 lo0 hi0 : Nat) (l1 : List Int) (A1 : Option Addr) (n1 c1 lo1 hi1 : Nat) (a2 : Int) (a3 : Int) (a4 : Int) (w : World) (h0 : n0 ≤ 1048576) (r0 : Rd w lo0 hi0 5 A0 n0 (cNode l0)) (p0 : n0 ≤ c0) (b0 : Hid (cNodeOk l0)) (h1 : n1 ≤ 1048576) (r1 : Rd w lo1 hi1 1 A1 n1 (i64s l1)) (p1 : n1 ≤ c1) (b1 : Hid (I64s l1)) (w2 : (Lit.int .i64 a2).wf = true) (w3 : (Lit.int .i64 a3).wf = true) (w4 : (Lit.int .i64 a4).wf = true) :
    Calls Try.prog 35 #[.slice A0 n0 c0, .slice A1 n1 c1, .int .i64 a2, .int .i64 a3, .int .i64 a4] w (Says (.int .i64 (mRes l0 l1 a2 a3 a4)) w) := by
  have W2 := Lib.hid w2
  have W3 := Lib.hid w3
  go_enter Try.func35, Try.ntmps35
  go_wp2_with fail
  refine (ring_any l0 A0 n0 c0 lo0 hi0 l1 A1 n1 c1 lo1 hi1 a2 a3 w h0 r0 p0 b0 h1 r1 p1 b1 w2 w3).mono ?_
  rintro e1 u1 ⟨A, m, c, M, hm, rfl, hF, hM, hMl, hb1⟩
  have hmn : m ≤ n0 := by rw [hm]; have := mSeen_len l0 l1 a3; have := rd_len TNode.len r0 (by decide); omega
  have HLm := Lib.hid hm.symm
  have HF := Lib.hid hF.rd
  have HM := Lib.hid hM
  have HB := Lib.hid hb1
  have hMu := hM.lt
  have HOK := Lib.hid (mSeen_ok (h := l1) (b := a3) b0.out)
  clear hF hM hb1 hm
  have HE : Hid (mRes l0 l1 a2 a3 a4 = match mFind (mSeen l0 l1 a3) a2 a3 a4 with | some x => x.f0 | none => -1) := Lib.hid rfl
  have HC := Lib.hid (resolve_any (mSeen l0 l1 a3) A m c (M + 1) u1.heap.size a2 a3 a4 M 0 u1 w2 w3 (by omega) HF.out HOK (.inr (Nat.le_refl _)) HM.out (by unfold maxLen; omega))
  unfold Resd at HC
  clear r0 r1 w2 w3 w4
  cases hf : mFind (mSeen l0 l1 a3) a2 a3 a4 with
  | some x =>
    rw [hf] at HC HE
    simp only [fId, Option.isSome_some] at HC
    go_wp2_with fail
    refine HC.out.mono ?_
    rintro e2 u2 ⟨rfl, _, hc2⟩
    have HB2 := Lib.hid (HB.out.trans (hc2.below (.inl hMl) HB.out.size))
    clear hc2 HC hf
    go_wp2_with fail
    go_ret
    exact ⟨by rw [HE.out]; rfl, HB2.out⟩
  | none =>
    rw [hf] at HC HE
    simp only [fId, Option.isSome_none] at HC
    go_wp2_with fail
    refine HC.out.mono ?_
    rintro e2 u2 ⟨rfl, _, hc2⟩
    have HB2 := Lib.hid (HB.out.trans (hc2.below (.inl hMl) HB.out.size))
    clear hc2 HC hf
    go_wp2_with fail
    go_ret
    exact ⟨by rw [HE.out]; rfl, HB2.out⟩
set_option maxHeartbeats 8000000 in
theorem impl_EditByHandleC (l0 : List TNode) (A0 : Option Addr) (n0 c0 lo0 hi0 : Nat) (l1 : List Int) (A1 : Option Addr) (n1 c1 lo1 hi1 : Nat) (a2 : Int) (a3 : Int) (a4 : Int) (a5 : Int) (w : World) (h0 : n0 ≤ 1048576) (r0 : Rd w lo0 hi0 5 A0 n0 (cNode l0)) (p0 : n0 ≤ c0) (b0 : Hid (cNodeOk l0)) (h1 : n1 ≤ 1048576) (r1 : Rd w lo1 hi1 1 A1 n1 (i64s l1)) (p1 : n1 ≤ c1) (b1 : Hid (I64s l1)) (w2 : (Lit.int .i64 a2).wf = true) (w3 : (Lit.int .i64 a3).wf = true) (w4 : (Lit.int .i64 a4).wf = true) (w5 : (Lit.int .i64 a5).wf = true) :
    Calls Try.prog 37 #[.slice A0 n0 c0, .slice A1 n1 c1, .int .i64 a2, .int .i64 a3, .int .i64 a4, .int .i64 a5] w (MakesV 54 5 (mEBH l0 l1 a2 a3 a4 a5).length (cNode (mEBH l0 l1 a2 a3 a4 a5)) (.bool (mEBHok l0 l1 a2 a3 a4 a5)) w) := by
  have HR0 := Lib.hid r0
  have HR1 := Lib.hid r1
  have HL0 := Lib.hid (rd_len TNode.len r0 (by decide))
  go_enter Try.func37, Try.ntmps37
  go_wp2_with fail
  refine (ring_any l0 A0 n0 c0 lo0 hi0 l1 A1 n1 c1 lo1 hi1 a2 a5 w h0 r0 p0 b0 h1 r1 p1 b1 w2 w5).mono ?_
  rintro e1 u1 ⟨A, m, c, M, hm, rfl, hF, hM, hMl, hb1⟩
  have hmn : m ≤ n0 := by rw [hm]; have := mSeen_len l0 l1 a5; have := rd_len TNode.len r0 (by decide); omega
  have HLm := Lib.hid hm.symm
  have HF := Lib.hid hF.rd
  have HM := Lib.hid hM
  have HB := Lib.hid hb1
  have hMu := hM.lt
  have HOK := Lib.hid (mSeen_ok (h := l1) (b := a5) b0.out)
  clear hF hM hb1 hm
  have HC := Lib.hid (resolve_any (mSeen l0 l1 a5) A m c (M + 1) u1.heap.size a2 a5 a3 M 0 u1 w2 w5 (by omega) HF.out HOK (.inr (Nat.le_refl _)) HM.out (by unfold maxLen; omega))
  unfold Resd at HC
  clear r0 r1
  cases hf : mFind (mSeen l0 l1 a5) a2 a5 a3 with
  | some x =>
    have HG := Lib.hid (show mEBH l0 l1 a2 a3 a4 a5 = mGuard l0 l1 (eTx x.f0 a4 a5) by unfold mEBH; rw [hf])
    have HO := Lib.hid (show mEBHok l0 l1 a2 a3 a4 a5 = mGuardOk l0 l1 (eTx x.f0 a4 a5) by unfold mEBHok; rw [hf])
    have hfit : Hid (TEdit.fit (eTx x.f0 a4 a5)) := Lib.hid (eTx_fit b0.out hf w4 w5)
    have CG := Lib.hid (fun W (hW : Below w.heap.size w W) => show Calls Try.prog 30 #[.slice A0 n0 c0, .slice A1 n1 c1, .agg #[.int .i64 3, .int .i64 x.f0, .int .i64 0, .int .i64 0, .int .i64 a4, .int .i64 a5]] W _ from impl_GuardEditC l0 A0 n0 c0 lo0 hi0 l1 A1 n1 c1 lo1 hi1 (eTx x.f0 a4 a5) W h0 (HR0.out.new hW) p0 b0 h1 (HR1.out.new hW) p1 b1 hfit)
    have hx0 := (find_mem hf).2
    obtain ⟨gl, hgl⟩ : ∃ gl, gl = (mGuard l0 l1 (eTx x.f0 a4 a5)).length := ⟨_, rfl⟩
    obtain ⟨go, hgo⟩ : ∃ go, go = mGuardOk l0 l1 (eTx x.f0 a4 a5) := ⟨_, rfl⟩
    rw [← hgl, ← hgo] at CG
    have HGL := Lib.hid hgl
    have HGO := Lib.hid hgo
    clear hgl hgo
    rw [hf] at HC
    simp only [fId, Option.isSome_some] at HC
    clear hf
    go_wp2_with fail
    refine HC.out.mono ?_
    rintro e2 u2 ⟨rfl, _, hc2⟩
    have HB2 := Lib.hid (HB.out.trans (hc2.below (.inl hMl) HB.out.size))
    clear hc2 HC
    go_wp2_with fail
    refine (CG.out _ HB2.out).mono ?_
    rintro e3 u3 ⟨A', c', rfl, hF3, hb3⟩
    have HB3 := Lib.hid (below_trans HB2.out hb3 (Nat.le_refl _))
    have HF3 := Lib.hid (hF3.mono (show w.heap.size ≤ u2.heap.size from HB2.out.size) (Nat.le_refl _))
    clear hF3 hb3 CG
    go_wp2_with fail
    go_ret2
    rw [HG.out, HO.out, ← HGL.out, ← HGO.out]
    exact ⟨_, _, rfl, HF3.out, HB3.out⟩
  | none =>
    have HG := Lib.hid (show mEBH l0 l1 a2 a3 a4 a5 = l0 by unfold mEBH; rw [hf])
    have HO := Lib.hid (show mEBHok l0 l1 a2 a3 a4 a5 = false by unfold mEBHok; rw [hf])
    rw [hf] at HC
    simp only [fId, Option.isSome_none] at HC
    clear hf
    go_wp2_with fail
    refine HC.out.mono ?_
    rintro e2 u2 ⟨rfl, _, hc2⟩
    have HB2 := Lib.hid (HB.out.trans (hc2.below (.inl hMl) HB.out.size))
    clear hc2 HC
    go_wp2_with fail
    refine (clone_Node l0 A0 n0 c0 lo0 hi0 _ h0 (HR0.out.new HB2.out)).mono ?_
    rintro e3 u3 ⟨v, rfl, ho, hb3⟩
    obtain ⟨A', c', rfl, hF3⟩ := fr_of_own ho
    have HB3 := Lib.hid (below_trans HB2.out hb3 (Nat.le_refl _))
    have HF3 := Lib.hid (hF3.mono (show w.heap.size ≤ u2.heap.size from HB2.out.size) (Nat.le_refl _))
    clear hF3 hb3
    go_wp2_with fail
    go_ret2
    rw [HG.out, HO.out, HL0.out]
    exact ⟨_, _, rfl, HF3.out, HB3.out⟩
set_option maxHeartbeats 8000000 in
theorem impl_ForeignHandlesC (l0 : List TNode) (A0 : Option Addr) (n0 c0 lo0 hi0 : Nat) (l1 : List Int) (A1 : Option Addr) (n1 c1 lo1 hi1 : Nat) (a2 : Int) (a3 : Int) (l4 : List Int) (A4 : Option Addr) (n4 c4 lo4 hi4 : Nat) (w : World) (h0 : n0 ≤ 1048576) (r0 : Rd w lo0 hi0 5 A0 n0 (cNode l0)) (p0 : n0 ≤ c0) (b0 : Hid (cNodeOk l0)) (h1 : n1 ≤ 1048576) (r1 : Rd w lo1 hi1 1 A1 n1 (i64s l1)) (p1 : n1 ≤ c1) (b1 : Hid (I64s l1)) (w2 : (Lit.int .i64 a2).wf = true) (w3 : (Lit.int .i64 a3).wf = true) (h4 : n4 ≤ 1048576) (r4 : Rd w lo4 hi4 1 A4 n4 (i64s l4)) (p4 : n4 ≤ c4) (b4 : Hid (I64s l4)) :
    Calls Try.prog 39 #[.slice A0 n0 c0, .slice A1 n1 c1, .int .i64 a2, .int .i64 a3, .slice A4 n4 c4] w (Says (.int .i64 (mFor l0 l1 a2 a3 l4)) w) := by
  have HR4 := Lib.hid (r4.old (by decide))
  have HL4 := Lib.hid (show l4.length = n4 by simpa using r4.1)
  have CR := Lib.hid (fun (A : Option Addr) (m c M lo hi : Nat) (z : Int) (n : Nat) W hm hF hok hlo hM hn => resolve_any (mSeen l0 l1 a3) A m c lo hi a2 a3 z M n W w2 w3 hm hF hok hlo hM hn)
  go_enter Try.func39, Try.ntmps39
  go_wp2_with fail
  refine (ring_any l0 A0 n0 c0 lo0 hi0 l1 A1 n1 c1 lo1 hi1 a2 a3 w h0 r0 p0 b0 h1 r1 p1 b1 w2 w3).mono ?_
  rintro e1 u1 ⟨A, m, c, M, hm, rfl, hF, hM, hMl, hb1⟩
  have hmn : m ≤ n0 := by rw [hm]; have := mSeen_len l0 l1 a3; have := rd_len TNode.len r0 (by decide); omega
  have HLm := Lib.hid hm.symm
  have HF := Lib.hid hF.rd
  have HM := Lib.hid hM
  have HB := Lib.hid hb1
  have hMu := hM.lt
  have HOK := Lib.hid (mSeen_ok (h := l1) (b := a3) b0.out)
  clear hF hM hb1 hm
  have hHI : w.heap.size ≤ M := hMl
  have hMl4 : w.heap.size ≤ u1.heap.size := HB.out.size
  have HR4u := Lib.hid (HR4.out.new HB.out)
  generalize hP : (fun z => !(mFind (mSeen l0 l1 a3) a2 a3 z).isSome) = P
  have HP := Lib.hid hP
  have HE := Lib.hid (show mFor l0 l1 a2 a3 l4 = ((l4.filter P).length : Int) by unfold mFor; rw [hP])
  clear hP
  have HV0 := Lib.hid (HB.out.alloc HB.out.size (.cells #[.slice A m c, .int .i64 a2, .int .i64 a3, .map (some M), (.func (.func 77) #[] #[])] 77))
  have KR := Lib.hid (box_new u1 77 #[.slice A m c, .int .i64 a2, .int .i64 a3, .map (some M), (.func (.func 77) #[] #[])])
  have HFv := Lib.hid (HF.out.alloc (.cells #[.slice A m c, .int .i64 a2, .int .i64 a3, .map (some M), (.func (.func 77) #[] #[])] 77))
  have HMv := Lib.hid (HM.out.alloc_ (.cells #[.slice A m c, .int .i64 a2, .int .i64 a3, .map (some M), (.func (.func 77) #[] #[])] 77))
  have HR4v := Lib.hid (HR4u.out.alloc (.cells #[.slice A m c, .int .i64 a2, .int .i64 a3, .map (some M), (.func (.func 77) #[] #[])] 77))
  have hVs : ((u1.alloc (.cells #[.slice A m c, .int .i64 a2, .int .i64 a3, .map (some M), (.func (.func 77) #[] #[])] 77))).heap.size = u1.heap.size + 1 := by simp
  have HVs := Lib.hid hVs
  have hst := fun (W : World) (a : Addr) (cs : Array Value) (m : Mode) => store_fn W a 77 cs m
  clear r0 r1 w2 w3 hVs HB HF HM r4 HR4u
  go_wp2_with fail
  clear hst
  generalize hV : (u1.alloc (.cells #[.slice A m c, .int .i64 a2, .int .i64 a3, .map (some M), (.func (.func 77) #[] #[])] 77)) = V at HV0 KR HFv HMv HVs HR4v ⊢
  have hV1 : u1.heap.size + 1 = V.heap.size := HVs.out.symm
  clear hV
  go_loopw [12, 24] (fun q i wr => ∃ (k j : Nat), i = .int .i64 k ∧ k ≤ n4 ∧ q = .int .i64 (((l4.take k).filter P).length : Int) ∧ Hid (j ≤ k * 1048576) ∧ Hid (MapH wr M j a2 a3 (mHandle a2 a3)) ∧ Hid (Chg M (M + 1) V wr)) (fun _ i _ => n4 - (intOf i).toNat)
  case atStart => exact ⟨0, 0, rfl, Nat.zero_le _, rfl, Lib.hid (Nat.le_refl _), HMv, Lib.hid (Chg.refl _ _ _)⟩
  case round =>
    obtain ⟨k, j, rfl, hk, rfl, HN, HMr, HCr⟩ := hrel
    have HRr := Lib.hid (HFv.out.chg HCr.out (.inr (.inl (Nat.le_refl _))))
    have HR4r := Lib.hid (HR4v.out.chg HCr.out (.inl hHI))
    have KRr := Lib.hid (KR.out.chg HCr.out (by omega))
    have q0 := KRr.out.at_ (j := 0) (u := .slice A m c) rfl
    have q1 := KRr.out.at_ (j := 1) (u := .int .i64 a2) rfl
    have q2 := KRr.out.at_ (j := 2) (u := .int .i64 a3) rfl
    have q3 := KRr.out.at_ (j := 3) (u := .map (some M)) rfl
    have q4 := KRr.out.at_ (j := 4) (u := (.func (.func 77) #[] #[])) rfl
    have HKL := Lib.hid (Nat.le_trans (List.length_filter_le P (l4.take k)) (List.length_take_le _ _))
    by_cases hlt : k < n4
    · obtain ⟨b, off, z, rfl, _, _, hz, hc⟩ := rd_int HR4r.out hlt
      have HSn := Lib.hid (filter_sn P hz)
      have HPz := Lib.hid (show P z = !(mFind (mSeen l0 l1 a3) a2 a3 z).isSome by rw [← HP.out])
      have HC := Lib.hid (CR.out A m c M (M + 1) u1.heap.size z j wr (by omega) HRr.out HOK (.inr (Nat.le_refl _)) HMr.out (by have := HN.out; unfold maxLen; omega))
      unfold Resd at HC
      clear hz
      obtain ⟨y, hyy⟩ : ∃ y, y = ((l4.take k).filter P).length := ⟨_, rfl⟩
      have HYY := Lib.hid hyy
      have hy : y ≤ 1048576 := by have := HKL.out; omega
      rw [← hyy]
      clear hyy
      generalize mFind (mSeen l0 l1 a3) a2 a3 z = fo at HC HPz
      cases fo with
      | some x =>
        simp only [fId, Option.isSome_some] at HC
        have H2 := Lib.hid (show (y : Int) = (((l4.take (k + 1)).filter P).length : Int) by rw [HSn.out, if_neg (by rw [HPz.out]; simp), HYY.out])
        go_wp2_with fail
        refine HC.out.mono ?_
        rintro e2 u2 ⟨rfl, hM2, hc2⟩
        have HM2 := Lib.hid hM2
        have HC2 := Lib.hid (HCr.out.trans hc2)
        clear hM2 hc2 HC
        go_wp2_with fail
        go_roundw
        case rel => exact ⟨k + 1, j + m, by go_num, by omega, by rw [← H2.out], Lib.hid (by have := HN.out; omega), HM2, HC2⟩
        case measure => simp [intOf]; omega
      | none =>
        simp only [fId, Option.isSome_none] at HC
        have H2 := Lib.hid (show (y : Int) + 1 = (((l4.take (k + 1)).filter P).length : Int) by rw [HSn.out, if_pos (by rw [HPz.out]; simp), List.length_append, HYY.out]; simp)
        go_wp2_with fail
        refine HC.out.mono ?_
        rintro e2 u2 ⟨rfl, hM2, hc2⟩
        have HM2 := Lib.hid hM2
        have HC2 := Lib.hid (HCr.out.trans hc2)
        clear hM2 hc2 HC
        go_wp2_with fail
        go_roundw
        case rel => exact ⟨k + 1, j + m, by go_num, by omega, by rw [← H2.out], Lib.hid (by have := HN.out; omega), HM2, HC2⟩
        case measure => simp [intOf]; omega
    · obtain rfl : k = n4 := by omega
      have H2 := Lib.hid (show ((l4.take k).filter P).length = (l4.filter P).length by rw [List.take_of_length_le (by rw [HL4.out]; exact Nat.le_refl _)])
      generalize ((l4.take k).filter P).length = y at H2 ⊢
      go_wp2_with fail
      go_ret
      exact ⟨by rw [HE.out, ← H2.out]; rfl, HV0.out.trans (HCr.out.below (.inl hMl) (by have := HV0.out.size; omega))⟩
end Go.Proofs.Ytomoigbhikihfaa
