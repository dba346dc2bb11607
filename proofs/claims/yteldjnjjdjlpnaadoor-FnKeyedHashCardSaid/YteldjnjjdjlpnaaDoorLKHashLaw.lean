/- The law FnKeyedHash answers true for every argument, and leaves each argument as it was. No condition. -/
import Derived.Test.YteldjnjjdjlpnaaDoorEFrame
import Derived.Test.YteldjnjjdjlpnaaDoorAtD
import Derived.Test.YteldjnjjdjlpnaaDoorDraw1
import Derived.Test.YteldjnjjdjlpnaaDoorKhM
import Derived.Test.YteldjnjjdjlpnaaDoorAppW
import Derived.Test.YteldjnjjdjlpnaaDoorKhD
import Derived.Test.YteldjnjjdjlpnaaDoorDerive
import Derived.Test.YteldjnjjdjlpnaaDoorValid
namespace Go.Proofs.YteldjnjjdjlpnaaDoor.fnKeyedHash
open Go Go.ChangeShapes Go.WideShapes Go.ChangeAt Go.RowKit Go.Lib
open Go.ChangeMaps (open_string)
set_option linter.unusedVariables false
set_option linter.unusedSimpArgs false
set_option maxRecDepth 100000
theorem box_putk {w : World} {g : Nat} {t : TypeId} {cs : Array Value} (h : BoxAt w g t cs) (j : Nat) (v : Value) : BoxAt (w.setCell ⟨g, j, none⟩ v) g t (cs.setIfInBounds j v) := by
  unfold BoxAt at h ⊢
  simp [World.setCell, Array.getElem?_modify, h]
theorem fr_cells {w : World} {lo hi n c : Nat} {E : TypeId} {A : Option Addr} {xs : List Value} (h : Fr w lo hi E 1 A n c xs) (hn : 0 < n) : ∃ (g cap : Nat), A = some ⟨g, 0, none⟩ ∧ lo ≤ g ∧ g < hi ∧ ∃ cur : Array Value, BoxAt w g E cur ∧ cur.toList.take n = xs := by
  obtain ⟨ho, hh'⟩ := h.2 hn
  rcases ho.2 with ⟨hv, hz⟩ | ⟨g, cap, cur, hv, hg, hh, hnc, hcm, hcs, htake⟩
  · omega
  · simp only [Value.slice.injEq] at hv
    obtain ⟨rfl, _, rfl⟩ := hv
    exact ⟨g, 0, rfl, hg, hh' _ rfl, cur, hh, by simpa using htake⟩
theorem fr_get {cur : Array Value} {n i : Nat} {l : List Int} {z : Int} (h : cur.toList.take n = i64s l) (hz : l[i]? = some z) : cur[i]? = some (.int .i64 z) := by
  have e : (i64s l)[i]? = some (.int .i64 z) := by simp [i64s, hz]
  rw [← h, List.getElem?_take] at e
  split at e
  · simpa using e
  · cases e
theorem fr_set {cur : Array Value} {n i : Nat} {l : List Int} {z : Int} (h : cur.toList.take n = i64s l) (hi : i < l.length) : (cur.setIfInBounds i (.int .i64 z)).toList.take n = i64s (l.set i z) := by
  rw [Array.toList_setIfInBounds, List.take_set, h]
  simp [i64s, List.map_set]
theorem rd_of_cur {w : World} {g n : Nat} {t : TypeId} {cur : Array Value} {xs : List Value} (h : BoxAt w g t cur) (ht : cur.toList.take n = xs) (hl : xs.length = n := by simp [i64s]) : Rd w g (g + 1) 1 (some ⟨g, 0, none⟩) n xs :=
  ⟨by simpa using hl, fun _ => ⟨g, 0, rfl, Nat.le_refl _, by omega, fun j u hu => by
    rw [Nat.zero_add]
    refine h.at_ ?_
    rw [← ht, List.getElem?_take] at hu
    split at hu
    · simpa using hu
    · cases hu⟩⟩
theorem derive_bd (k : Int) (s : ByteArray) : 1 ≤ mDerive k s ∧ mDerive k s ≤ 2147483646 := by
  unfold mDerive
  split
  · rename_i h
    exact inR_true.1 h
  · omega
theorem derive_valid (k : Int) (s : ByteArray) : mValid (mDerive k s) = true := inR_true.2 (derive_bd k s)
set_option maxHeartbeats 16000000 in
theorem walk (A0 : Option Addr) (n0 c0 : Nat) (w0 : n0 ≤ maxLen) (w : World) (m0 : BytesAt w w.heap.size A0 n0) (hT : Pow10 w) :
    Calls Tryd.prog 4 #[.slice A0 n0 c0] w fun e w' => e = .returned (.bool true) ∧ Below w.heap.size w w' := by
  have hn0 : n0 ≤ 9223372036854775807 := w0
  by_cases h : n0 ≤ 1048576
  · have g : decide ((1048576 : Int) < n0) = false := by simp; omega
    obtain ⟨a, ha, CAt⟩ := at_det n0 c0 A0 w h m0
    replace CAt := Lib.hid CAt
    have M0 := Lib.hid m0
    have HT := Lib.hid hT
    clear m0 hT
    go_enter Tryd.func4, Tryd.ntmps4
    go_wp2_with fail
    refine (big_any n0 c0 A0 _ w0).mono ?_
    rintro e w1 ⟨rfl, rfl⟩
    rw [g]
    go_wp2_with fail
    refine (drawKH_any n0 c0 A0 _ (by omega) M0.out).mono ?_
    rintro e w1 ⟨k, A, c, l, hk0, hk1, rfl, hl, hcp, hw, hr, hb⟩
    have HI := Lib.hid (show I64s l from fun z hz => by have := hw z hz; omega)
    have WK := Lib.hid (show (Lit.int .i64 k).wf = true from WalkArith.wf_i64 (by constructor <;> omega))
    have HW := Lib.hid hw
    have HR := Lib.hid hr
    have HB1 := Lib.hid hb
    have HCp := Lib.hid hcp
    have HKB := Lib.hid (mKHash_bd k l)
    clear hw hr hb hcp hk0 hk1
    go_wp2_with fail
    refine (impl_KeyedHash k l A l.length c _ _ w1 WK.out (by omega) HR.out HI).mono ?_
    rintro e w2 ⟨rfl, hb2⟩
    have HR2 := Lib.hid (HR.out.new hb2)
    have HB2 := Lib.hid (below_trans HB1.out hb2 (Nat.le_refl _))
    clear hb2
    obtain ⟨x0, x1⟩ := HKB.out
    obtain ⟨H, hH⟩ : ∃ H, H = mKHash k l := ⟨_, rfl⟩
    have HH := Lib.hid hH
    rw [← hH] at x0 x1 ⊢
    clear hH
    have y0 : decide (H < 0) = false := by simp; omega
    have y1 : decide ((2147483647 : Int) ≤ H) = false := by simp; omega
    have HO := Lib.hid (World.ownsRow_lit (e := 3) (size := 1) w2 #[.int .i64 k] 1 (Nat.le_refl _) (by unfold maxLen; omega) rfl)
    have CH := Lib.hid (fun (W : World) (A : Option Addr) (n c lo hi : Nat) (hn : n ≤ 1048576) (q : Rd W lo hi 1 A n (i64s (k :: (l ++ [k])))) => impl_Hash (k :: (l ++ [k])) A n c lo hi W hn q (i64s_key WK.out HI.out))
    have E0 := Lib.hid (show mHash (k :: (l ++ [k])) = H from HH.out.symm)
    rw [E0.out] at CH
    go_wp2_with (first
      | (at_builtin; refine wp_appw (by kernel_rfl) (.tmp 29) (.tmp 30) _ rfl w2.heap.size 3 (.int .i64 0) 1 8 Tryd.underlying32 info_intk rfl (by decide) _ _ _ rfl HO.out _ _ A l.length c (i64s l) rfl (HR2.out.alloc _) (ints_oneCell _ _) (by unfold maxLen; omega) (by omega) (by simp) ?_; intro v1 w3 ho1 hb1 _ _; have HO1 := Lib.hid ho1; have HB3 := Lib.hid (((Below.refl w2.heap.size w2).alloc (Nat.le_refl _) _).trans hb1); clear ho1 hb1)
      | (at_builtin; refine wp_app_litw (by kernel_rfl) (.tmp 31) (.tmp 33) _ rfl w2.heap.size 3 (.int .i64 0) 1 8 Tryd.underlying32 info_intk rfl (by decide) _ _ _ rfl HO1.out #[.int .i64 k] 1 1 _ rfl rfl rfl (one_intk k) (by unfold maxLen; omega) (by omega) HB3.out.size ?_; intro v2 w4 ho2 hb2; have HO2 := Lib.hid ho2; have HB4 := Lib.hid (HB3.out.trans hb2); clear ho2 hb2))
    obtain ⟨CA, cc, rfl, FC⟩ := fr_of_own HO2.out
    refine (CH.out w4 CA (1 + l.length + 1) cc _ _ (by omega) (by have h := FC.rd; simpa [i64s] using h)).mono ?_
    rintro e w5 ⟨rfl, hb5⟩
    have HR5 := Lib.hid ((HR2.out.new HB4.out).new hb5)
    have HB5 := Lib.hid (below_trans (below_trans HB2.out HB4.out (Nat.le_refl _)) hb5 (Nat.le_refl _))
    clear hb5 FC HO HO1 HO2 HB3 HB4 CH HR2 HB2 HR HB1 y0 y1
    by_cases hl0 : 0 < l.length
    · have hlc : (0 : Int) < l.length := by omega
      obtain ⟨q0, q1⟩ := ha 0
      obtain ⟨p0, p1⟩ := ha 1
      obtain ⟨i, hi⟩ : ∃ i : Nat, a 0 % (l.length : Int) = (i : Int) := Int.eq_ofNat_of_zero_le (Int.emod_nonneg _ (by omega))
      have hil : i < l.length := by have := Int.emod_lt_of_pos (a 0) hlc; omega
      have hmt : Int.tmod (a 0) (l.length : Int) = (i : Int) := by rw [Int.tmod_eq_emod_of_nonneg q0]; exact hi
      have C0 := Lib.hid (show ∀ W, Below w.heap.size w W → Calls Tryd.prog 20 #[.slice A0 n0 c0, .int .i64 0] W (Says (.int .i64 (a 0)) W) from fun W hb => CAt.out W 0 hb (by omega))
      have C1 := Lib.hid (show ∀ W, Below w.heap.size w W → Calls Tryd.prog 20 #[.slice A0 n0 c0, .int .i64 1] W (Says (.int .i64 (a 1)) W) from fun W hb => CAt.out W 1 hb (by omega))
      clear CAt hi ha
      generalize a 0 = y0 at C0 q0 q1 hmt
      generalize a 1 = y1 at C1 p0 p1
      obtain ⟨z, hz⟩ : ∃ z, l[i]? = some z := ⟨_, List.getElem?_eq_getElem hil⟩
      have hzb := HW.out z (List.mem_of_getElem? hz)
      obtain ⟨z0, z1⟩ := hzb
      have e1 : IntKind.i64.wrap (z + 1) = z + 1 := IntWalk.i64_in _ (by omega)
      have e2 : IntKind.i64.wrap (z + 1 + y1) = z + 1 + y1 := IntWalk.i64_in _ (by omega)
      have WZ := Lib.hid (show (Lit.int .i64 (z + 1 + y1)).wf = true from WalkArith.wf_i64 (by constructor <;> omega))
      have NE := Lib.hid (show mKHash k (l.set i ((z + 1 + y1) % 2147483647)) ≠ H by rw [HH.out]; exact mKHash_parts k hz (by omega))
      have IS := Lib.hid (show I64s (l.set i ((z + 1 + y1) % 2147483647)) from fun x hx => by
        rcases List.mem_or_eq_of_mem_set hx with hx | rfl
        · exact HI.out x hx
        · omega)
      have HZ := Lib.hid hz
      clear hz z0 z1
      go_wp2_with (at_builtin; refine wp_app rfl _ _ _ rfl w5.heap.size 3 (.int .i64 0) 1 8 Tryd.underlying32 info_intk rfl (by decide) _ _ _ rfl (World.ownsRow_lit w5 #[] 0 (Nat.le_refl _) (by unfold maxLen; omega) rfl) _ _ A l.length c (i64s l) rfl (HR5.out.alloc _) (ints_oneCell _ _) (by unfold maxLen; omega) (by omega) (by simp) ?_; intro v6 w6 ho6 hb6 _ _; have HO6 := Lib.hid (show w6.ownsRow w5.heap.size 3 1 v6 l.length (i64s l) by simpa using ho6); have HB6 := Lib.hid (((Below.refl w5.heap.size w5).alloc (Nat.le_refl _) _).trans hb6); obtain ⟨M, mc, rfl, FM⟩ := fr_of_own HO6.out; clear ho6 hb6)
      obtain ⟨grow, curb, hM, hgl, hgh, hcur0⟩ := fr_cells FM hl0
      obtain ⟨cur, hcb, hct⟩ := hcur0
      obtain rfl := hM
      have hcur := fr_get hct HZ.out
      have Grow0 := Lib.hid hcb
      clear FM hcb HO6
      refine (C0.out _ (HB5.out.trans (HB6.out.mono HB5.out.size))).mono ?_
      rintro e w7 ⟨rfl, hb7⟩
      have Grow1 := Lib.hid (Grow0.out.new hb7)
      have HB57 := Lib.hid (below_trans HB6.out hb7 (Nat.le_refl _))
      have hg6 : w5.heap.size ≤ grow := hgl
      clear hb7 Grow0 HB6
      have Grow := Grow1.out.drw
      go_wp2_with fail
      refine wp_region_held_drew (S := fun w' => Below w5.heap.size w5 w') (by kernel_rfl) ?_ (fun hHeld => ?_)
      · exact HB57.out.drew
      refine wpAnyH_take (i := 0) (oi := ⟨some 49, _, _, _, _, _⟩) (v := ?_) rfl (by kernel_rfl) (by kernel_rfl) (by kernel_rfl) (fun _ _ _ h => h) (Or.inl ⟨by kernel_rfl, ?_⟩) hHeld ?_
      rotate_left
      focus (intro W hS; skip; clear hS; first | (go_simp; done) | (go_simp; with_reducible rfl))
      try simp only [Act.put, List.setIfInBounds_toArray, List.set_cons_zero, List.set_cons_succ]
      refine wpAnyH_take (i := 1) (oi := ⟨some 50, _, _, _, _, _⟩) (v := ?_) rfl (by kernel_rfl) (by kernel_rfl) (by kernel_rfl) (fun _ _ _ h => h) (Or.inl ⟨by kernel_rfl, ?_⟩) hHeld ?_
      rotate_left
      focus (intro W hS; skip; clear hS; first | (go_simp; done) | (go_simp; with_reducible rfl))
      try simp only [Act.put, List.setIfInBounds_toArray, List.set_cons_zero, List.set_cons_succ]
      refine wpAnyH_take (i := 2) (oi := ⟨some 51, _, _, _, _, _⟩) (v := ?_) rfl (by kernel_rfl) (by kernel_rfl) (by kernel_rfl) (fun _ _ _ h => h) (Or.inl ⟨by kernel_rfl, ?_⟩) hHeld ?_
      rotate_left
      focus (intro W hS; skip; clear hS; first | (go_simp; done) | (go_simp; with_reducible rfl))
      try simp only [Act.put, List.setIfInBounds_toArray, List.set_cons_zero, List.set_cons_succ]
      refine wpAnyH_take (i := 3) (oi := ⟨some 52, _, _, _, _, _⟩) (v := ?_) rfl (by kernel_rfl) (by kernel_rfl) (by kernel_rfl) (fun _ _ _ h => h) (Or.inl ⟨by kernel_rfl, ?_⟩) hHeld ?_
      rotate_left
      focus (intro W hS; skip; clear hS; first | (go_simp; done) | (go_simp; with_reducible rfl))
      try simp only [Act.put, List.setIfInBounds_toArray, List.set_cons_zero, List.set_cons_succ]
      refine wpAnyH_take (i := 4) (oi := ⟨some 53, _, _, _, _, _⟩) (v := ?_) rfl (by kernel_rfl) (by kernel_rfl) (by kernel_rfl) (fun _ _ _ h => h) (Or.inl ⟨by kernel_rfl, ?_⟩) hHeld ?_
      rotate_left
      focus (intro W hS; skip; clear hS; first | (go_simp; done) | (go_simp; with_reducible rfl))
      try simp only [Act.put, List.setIfInBounds_toArray, List.set_cons_zero, List.set_cons_succ]
      refine wpAnyH_take (i := 7) (oi := ⟨some 56, _, _, _, _, _⟩) (v := ?_) rfl (by kernel_rfl) (by kernel_rfl) (by kernel_rfl) (fun _ _ _ h => h) (Or.inl ⟨by kernel_rfl, ?_⟩) hHeld ?_
      rotate_left
      focus (intro W hS; skip; clear hS; first | (go_simp; done) | (go_simp; with_reducible rfl))
      try simp only [Act.put, List.setIfInBounds_toArray, List.set_cons_zero, List.set_cons_succ]
      refine wpAnyH_ready (rs := [5, 8]) (by kernel_rfl) (by simp) ?_
      refine AllReadyH.cons (o := ⟨some 54, _, _, _, _, _⟩) rfl (fun K hK => ?_) ?_
      · skip
        have hcl := Grow.at_ (j := i) hcur
        go_simp
        clear hcl
        refine hK.out _ _ hHeld (fun hHeld' => ?_)
        clear hK K hHeld
        have hHeld := hHeld'
        clear hHeld'
        try simp only [Act.put, List.setIfInBounds_toArray, List.set_cons_zero, List.set_cons_succ]
        refine wpAnyH_take (i := 6) (oi := ⟨some 55, _, _, _, _, _⟩) (v := ?_) rfl (by kernel_rfl) (by kernel_rfl) (by kernel_rfl) (fun _ _ _ h => h) (Or.inl ⟨by kernel_rfl, ?_⟩) hHeld ?_
        rotate_left
        focus (intro W hS; skip; clear hS; first | (go_simp; done) | (go_simp; with_reducible rfl))
        try simp only [Act.put, List.setIfInBounds_toArray, List.set_cons_zero, List.set_cons_succ]
        refine wpAnyH_ready (rs := [8]) (by kernel_rfl) (by simp) ?_
        refine AllReadyH.cons (o := ⟨some 57, _, _, _, _, _⟩) rfl (fun K hK => ?_) AllReadyH.nil
        go_simp
        refine Calls.mono (C1.out _ (HB5.out.trans (hHeld.mono HB5.out.size))) ?_
        rintro e x1 ⟨rfl, hb1⟩
        replace Grow := Grow.new hb1
        refine hK.out _ _ (below_trans hHeld hb1 (Nat.le_refl _)) (fun hHeld' => ?_)
        clear hK K hHeld hb1
        have hHeld := hHeld'
        clear hHeld'
        try simp only [Act.put, List.setIfInBounds_toArray, List.set_cons_zero, List.set_cons_succ]
        refine wpAnyH_take (i := 9) (oi := ⟨some 58, _, _, _, _, _⟩) (v := ?_) rfl (by kernel_rfl) (by kernel_rfl) (by kernel_rfl) (fun _ _ _ h => h) (Or.inl ⟨by kernel_rfl, ?_⟩) hHeld ?_
        rotate_left
        focus (intro W hS; skip; clear hS; first | (go_simp; done) | (go_simp; with_reducible rfl))
        try simp only [Act.put, List.setIfInBounds_toArray, List.set_cons_zero, List.set_cons_succ]
        refine wpAnyH_ready (rs := [10]) (by kernel_rfl) (by simp) ?_
        refine AllReadyH.cons (o := ⟨some 59, _, _, _, _, _⟩) rfl (fun K hK => ?_) AllReadyH.nil
        go_simp
        refine Calls.mono (says_of_same (spec_mod (z + 1 + y1) 2147483647 _ (by omega) (by omega) WZ.out)) ?_
        rintro e x2 ⟨rfl, hb1⟩
        replace Grow := Grow.new hb1
        refine hK.out _ _ (below_trans hHeld hb1 (Nat.le_refl _)) (fun hHeld' => ?_)
        clear hK K hHeld hb1
        have hHeld := hHeld'
        clear hHeld'
        try simp only [Act.put, List.setIfInBounds_toArray, List.set_cons_zero, List.set_cons_succ]
        refine wpAnyH_take (i := 11) (oi := ⟨some 60, _, _, _, _, _⟩) (v := ?_) rfl (by kernel_rfl) (by kernel_rfl) (by kernel_rfl) (fun _ _ _ h => h) (Or.inl ⟨by kernel_rfl, ?_⟩) hHeld ?_
        rotate_left
        focus (intro W hS; skip; clear hS; first | (go_simp; done) | (go_simp; with_reducible rfl))
        try simp only [Act.put, List.setIfInBounds_toArray, List.set_cons_zero, List.set_cons_succ]
        refine wpAnyH_ready (rs := [12]) (by kernel_rfl) (by simp) ?_
        refine AllReadyH.cons (o := ⟨none, _, _, _, _, _⟩) rfl (fun K hK => ?_) AllReadyH.nil
        have hcl := Grow.at_ (j := i) hcur
        have hfr := Grow.free i
        go_simp
        clear hcl hfr
        have GF := box_putk Grow i (.int .i64 ((z + 1 + y1) % 2147483647))
        refine hK.out _ _ (hHeld.setCell (p := ⟨grow, i, none⟩) hg6 _) (fun hHeld' => ?_)
        clear hK K hHeld
        have hHeld := hHeld'
        clear hHeld'
        try simp only [Act.put, List.setIfInBounds_toArray, List.set_cons_zero, List.set_cons_succ]
        refine wpAnyH_done (by kernel_rfl) ?_ _
        have HFx := Lib.hid GF
        have HBx := Lib.hid (HB5.out.trans (hHeld.mono HB5.out.size))
        clear GF hHeld
        go_wp2_with fail
        refine (impl_KeyedHash k (l.set i ((z + 1 + y1) % 2147483647)) (some ⟨grow, 0, none⟩) l.length mc _ _ _ WK.out (by omega) (rd_of_cur HFx.out (fr_set hct hil)) IS).mono ?_
        rintro e w8 ⟨rfl, hb8⟩
        have HB8 := Lib.hid (below_trans HBx.out hb8 (Nat.le_refl _))
        clear hb8
        have ne : (mKHash k (l.set i ((z + 1 + y1) % 2147483647)) == H) = false := by simpa using NE.out
        generalize mKHash k (l.set i ((z + 1 + y1) % 2147483647)) = H2 at ne ⊢
        go_wp2_with fail
        refine (drawDS_any n0 c0 A0 _ (by omega) (bytes_below M0.out HB8.out)).mono ?_
        rintro e w9 ⟨k2, s, hk20, hk21, rfl, hs, hb⟩
        have HB9 := Lib.hid (below_trans HB8.out hb (Nat.le_refl _))
        have WK2 := Lib.hid (show (Lit.int .i64 k2).wf = true from WalkArith.wf_i64 (by constructor <;> omega))
        clear hb hk20 hk21
        go_wp2_with fail
        refine (impl_DeriveFromString k2 s w9 (pow10_below HT.out HB9.out) WK2.out (by omega)).mono ?_
        rintro e w10 ⟨rfl, hb⟩
        have HB10 := Lib.hid (below_trans HB9.out hb (Nat.le_refl _))
        clear hb
        obtain ⟨d0, d1⟩ := derive_bd k2 s
        have DV := Lib.hid (derive_valid k2 s)
        have WD := Lib.hid (show (Lit.int .i64 (mDerive k2 s)).wf = true from WalkArith.wf_i64 (by constructor <;> omega))
        generalize mDerive k2 s = dv at DV WD ⊢
        clear d0 d1
        go_wp2_with fail
        refine (impl_IsValidKey dv w10 (pow10_below HT.out HB10.out) WD.out).mono ?_
        rintro e w11 ⟨rfl, hb⟩
        have HB11 := Lib.hid (below_trans HB10.out hb (Nat.le_refl _))
        rw [DV.out]
        clear hb
        go_wp2_with fail
        go_ret
        exact ⟨rfl, HB11.out⟩
      refine AllReadyH.cons (o := ⟨some 57, _, _, _, _, _⟩) rfl (fun K hK => ?_) ?_
      · skip
        go_simp
        refine Calls.mono (C1.out _ (HB5.out.trans (hHeld.mono HB5.out.size))) ?_
        rintro e x1 ⟨rfl, hb1⟩
        replace Grow := Grow.new hb1
        refine hK.out _ _ (below_trans hHeld hb1 (Nat.le_refl _)) (fun hHeld' => ?_)
        clear hK K hHeld hb1
        have hHeld := hHeld'
        clear hHeld'
        try simp only [Act.put, List.setIfInBounds_toArray, List.set_cons_zero, List.set_cons_succ]
        refine wpAnyH_ready (rs := [5]) (by kernel_rfl) (by simp) ?_
        refine AllReadyH.cons (o := ⟨some 54, _, _, _, _, _⟩) rfl (fun K hK => ?_) AllReadyH.nil
        have hcl := Grow.at_ (j := i) hcur
        go_simp
        clear hcl
        refine hK.out _ _ hHeld (fun hHeld' => ?_)
        clear hK K hHeld
        have hHeld := hHeld'
        clear hHeld'
        try simp only [Act.put, List.setIfInBounds_toArray, List.set_cons_zero, List.set_cons_succ]
        refine wpAnyH_take (i := 6) (oi := ⟨some 55, _, _, _, _, _⟩) (v := ?_) rfl (by kernel_rfl) (by kernel_rfl) (by kernel_rfl) (fun _ _ _ h => h) (Or.inl ⟨by kernel_rfl, ?_⟩) hHeld ?_
        rotate_left
        focus (intro W hS; skip; clear hS; first | (go_simp; done) | (go_simp; with_reducible rfl))
        try simp only [Act.put, List.setIfInBounds_toArray, List.set_cons_zero, List.set_cons_succ]
        refine wpAnyH_take (i := 9) (oi := ⟨some 58, _, _, _, _, _⟩) (v := ?_) rfl (by kernel_rfl) (by kernel_rfl) (by kernel_rfl) (fun _ _ _ h => h) (Or.inl ⟨by kernel_rfl, ?_⟩) hHeld ?_
        rotate_left
        focus (intro W hS; skip; clear hS; first | (go_simp; done) | (go_simp; with_reducible rfl))
        try simp only [Act.put, List.setIfInBounds_toArray, List.set_cons_zero, List.set_cons_succ]
        refine wpAnyH_ready (rs := [10]) (by kernel_rfl) (by simp) ?_
        refine AllReadyH.cons (o := ⟨some 59, _, _, _, _, _⟩) rfl (fun K hK => ?_) AllReadyH.nil
        go_simp
        refine Calls.mono (says_of_same (spec_mod (z + 1 + y1) 2147483647 _ (by omega) (by omega) WZ.out)) ?_
        rintro e x2 ⟨rfl, hb1⟩
        replace Grow := Grow.new hb1
        refine hK.out _ _ (below_trans hHeld hb1 (Nat.le_refl _)) (fun hHeld' => ?_)
        clear hK K hHeld hb1
        have hHeld := hHeld'
        clear hHeld'
        try simp only [Act.put, List.setIfInBounds_toArray, List.set_cons_zero, List.set_cons_succ]
        refine wpAnyH_take (i := 11) (oi := ⟨some 60, _, _, _, _, _⟩) (v := ?_) rfl (by kernel_rfl) (by kernel_rfl) (by kernel_rfl) (fun _ _ _ h => h) (Or.inl ⟨by kernel_rfl, ?_⟩) hHeld ?_
        rotate_left
        focus (intro W hS; skip; clear hS; first | (go_simp; done) | (go_simp; with_reducible rfl))
        try simp only [Act.put, List.setIfInBounds_toArray, List.set_cons_zero, List.set_cons_succ]
        refine wpAnyH_ready (rs := [12]) (by kernel_rfl) (by simp) ?_
        refine AllReadyH.cons (o := ⟨none, _, _, _, _, _⟩) rfl (fun K hK => ?_) AllReadyH.nil
        have hcl := Grow.at_ (j := i) hcur
        have hfr := Grow.free i
        go_simp
        clear hcl hfr
        have GF := box_putk Grow i (.int .i64 ((z + 1 + y1) % 2147483647))
        refine hK.out _ _ (hHeld.setCell (p := ⟨grow, i, none⟩) hg6 _) (fun hHeld' => ?_)
        clear hK K hHeld
        have hHeld := hHeld'
        clear hHeld'
        try simp only [Act.put, List.setIfInBounds_toArray, List.set_cons_zero, List.set_cons_succ]
        refine wpAnyH_done (by kernel_rfl) ?_ _
        have HFx := Lib.hid GF
        have HBx := Lib.hid (HB5.out.trans (hHeld.mono HB5.out.size))
        clear GF hHeld
        go_wp2_with fail
        refine (impl_KeyedHash k (l.set i ((z + 1 + y1) % 2147483647)) (some ⟨grow, 0, none⟩) l.length mc _ _ _ WK.out (by omega) (rd_of_cur HFx.out (fr_set hct hil)) IS).mono ?_
        rintro e w8 ⟨rfl, hb8⟩
        have HB8 := Lib.hid (below_trans HBx.out hb8 (Nat.le_refl _))
        clear hb8
        have ne : (mKHash k (l.set i ((z + 1 + y1) % 2147483647)) == H) = false := by simpa using NE.out
        generalize mKHash k (l.set i ((z + 1 + y1) % 2147483647)) = H2 at ne ⊢
        go_wp2_with fail
        refine (drawDS_any n0 c0 A0 _ (by omega) (bytes_below M0.out HB8.out)).mono ?_
        rintro e w9 ⟨k2, s, hk20, hk21, rfl, hs, hb⟩
        have HB9 := Lib.hid (below_trans HB8.out hb (Nat.le_refl _))
        have WK2 := Lib.hid (show (Lit.int .i64 k2).wf = true from WalkArith.wf_i64 (by constructor <;> omega))
        clear hb hk20 hk21
        go_wp2_with fail
        refine (impl_DeriveFromString k2 s w9 (pow10_below HT.out HB9.out) WK2.out (by omega)).mono ?_
        rintro e w10 ⟨rfl, hb⟩
        have HB10 := Lib.hid (below_trans HB9.out hb (Nat.le_refl _))
        clear hb
        obtain ⟨d0, d1⟩ := derive_bd k2 s
        have DV := Lib.hid (derive_valid k2 s)
        have WD := Lib.hid (show (Lit.int .i64 (mDerive k2 s)).wf = true from WalkArith.wf_i64 (by constructor <;> omega))
        generalize mDerive k2 s = dv at DV WD ⊢
        clear d0 d1
        go_wp2_with fail
        refine (impl_IsValidKey dv w10 (pow10_below HT.out HB10.out) WD.out).mono ?_
        rintro e w11 ⟨rfl, hb⟩
        have HB11 := Lib.hid (below_trans HB10.out hb (Nat.le_refl _))
        rw [DV.out]
        clear hb
        go_wp2_with fail
        go_ret
        exact ⟨rfl, HB11.out⟩
      exact AllReadyH.nil
    · obtain rfl : l = [] := List.eq_nil_of_length_eq_zero (by omega)
      go_wp2_with fail
      refine (drawDS_any n0 c0 A0 _ (by omega) (bytes_below M0.out HB5.out)).mono ?_
      rintro e w9 ⟨k2, s, hk20, hk21, rfl, hs, hb⟩
      have HB9 := Lib.hid (below_trans HB5.out hb (Nat.le_refl _))
      have WK2 := Lib.hid (show (Lit.int .i64 k2).wf = true from WalkArith.wf_i64 (by constructor <;> omega))
      clear hb hk20 hk21
      go_wp2_with fail
      refine (impl_DeriveFromString k2 s w9 (pow10_below HT.out HB9.out) WK2.out (by omega)).mono ?_
      rintro e w10 ⟨rfl, hb⟩
      have HB10 := Lib.hid (below_trans HB9.out hb (Nat.le_refl _))
      clear hb
      obtain ⟨d0, d1⟩ := derive_bd k2 s
      have DV := Lib.hid (derive_valid k2 s)
      have WD := Lib.hid (show (Lit.int .i64 (mDerive k2 s)).wf = true from WalkArith.wf_i64 (by constructor <;> omega))
      generalize mDerive k2 s = dv at DV WD ⊢
      clear d0 d1
      go_wp2_with fail
      refine (impl_IsValidKey dv w10 (pow10_below HT.out HB10.out) WD.out).mono ?_
      rintro e w11 ⟨rfl, hb⟩
      have HB11 := Lib.hid (below_trans HB10.out hb (Nat.le_refl _))
      rw [DV.out]
      clear hb
      go_wp2_with fail
      go_ret
      exact ⟨rfl, HB11.out⟩
  · have g : decide ((1048576 : Int) < n0) = true := by simp; omega
    go_enter Tryd.func4, Tryd.ntmps4
    go_wp2_with fail
    refine (big_any n0 c0 A0 _ w0).mono ?_
    rintro e w1 ⟨rfl, rfl⟩
    rw [g]
    go_wp2_with fail
    go_ret
    exact ⟨rfl, Below.refl _ _⟩

set_option maxRecDepth 100000 in
theorem lifted (os : Os) (started : os.Started) (H : Type) (enc : TypeId × Value → H) :
    ReturnsInHanded {} Tryd.checked os 4 .any (fun w args => (Rows.fnKeyedHashSpec.pre enc Tryd.prog Tryd.f4 [] false w args ∧ laidMetH Tryd.prog laidVars w) ∧ sizedMet enc Tryd.prog Tryd.f4 (OpenSpec.ofChange Rows.fnKeyedHashSpec) false w args) (Rows.fnKeyedHashSpec.post enc Tryd.prog Tryd.f4 false true false false) := by
  refine law_lifted_laid Tryd.func4 (by kernel_rfl) rfl rfl (by kernel_rfl) os started
    (ChangeSpec.witness_shaped (enc := enc) (C := Tryd.checked) (os := os) (X := fun w _ => laidMetH Tryd.prog laidVars w) false (World.laidAll Tryd.prog os laidVars) #[.slice none 0 0] 8 (World.laidAll_os _ _ _)
      (World.shaped_of_ZipB (by kernel_rfl) (by kernel_rfl)) (by kernel_rfl) (by kernel_rfl) (by kernel_rfl)
      (by rw [MakeChecks.laidMetH_plain _ _ _ (by kernel_rfl)]; exact laidMet_laidAll _ (by kernel_rfl) (by kernel_rfl))) ?_
  intro W base args ds p hT hval hA hlt
  rw [Tryd.params4] at hA hval
  obtain ⟨v0, vs0, d0, ds0, p0, q0, hargs, rfl, rfl, h0, r0⟩ := trodAll_cons hA
  obtain ⟨rfl, rfl, rfl⟩ := trodAll_nil r0
  obtain rfl : args = #[v0] := by cases args; simp_all
  obtain ⟨A0, n0, c0, rfl, w0, m0⟩ := open_bytes (hval 0 22 v0 rfl rfl) h0 (fun x hx => hlt x (by simp [hx]))
  exact ⟨fun _ => ⟨rfl, rfl, rfl⟩, walk A0 n0 c0 w0 W m0 hT⟩

theorem over : Rows.fnKeyedHashRow.holds Tryd.pinned (OpenSpec.ofChange Rows.fnKeyedHashSpec) :=
  OpenClaim.holds_of_wide 4 Tryd.f4 rfl rfl rfl rfl rfl rfl rfl ⟨rfl, rfl, rfl, rfl, rfl⟩ rfl rfl rfl rfl rfl (by kernel_rfl) Tryd.func4 (by kernel_rfl)
    (of_decide_eq_true (by kernel_rfl)) (by unfold Func.isWrapper; first | (rw [if_pos (by decide +kernel)]; kernel_rfl) | (rw [if_neg (by decide +kernel)]; exact ⟨rfl, rfl⟩))
    (fun os started H enc _ => lifted os started H enc)

theorem proved : Rows.FnKeyedHashCardSaid :=
  Claim7.holds_tied_plain_at .later [] [.sentinel] true Rows.fnKeyedHashCard.stood.harness true over (fun _ h => by cases h) (by kernel_rfl) (fun _ h => by cases h) fnKeyedHash_row_tie rfl ⟨rfl, rfl⟩ (by kernel_rfl) rfl
    (fun f fn hf hfn => by
      obtain rfl : f = 4 := Option.some.inj ((show Tryd.prog.funcNamed "loop.example/g03001/laws.FnKeyedHash" = some 4 by kernel_rfl).symm.trans hf) |>.symm
      obtain rfl : fn = Tryd.f4 := (Option.some.inj (Tryd.func4.symm.trans hfn)).symm
      exact ⟨by kernel_rfl, fun j t ht => by
        rw [Tryd.params4] at ht
        have hm : t ∈ [22] := by simpa using Array.mem_of_getElem? ht
        have hall : ([22].all fun u => !Tryd.prog.wantsStandIn u) = true := by kernel_rfl
        exact (show Tryd.prog.wantsStandIn t = false by simpa using List.all_eq_true.1 hall t hm)⟩)
    (by kernel_rfl)
#print axioms proved
end Go.Proofs.YteldjnjjdjlpnaaDoor.fnKeyedHash
