/- The law FnVarints answers true for every argument, and leaves each argument as it was. No condition. -/
import Derived.Test.YtkakdfphhnchhabFrame
import Derived.Test.YtkakdfphhnchhabUvS
import Derived.Deep.RegionHeld3
namespace Go.Proofs.Ytkakdfphhnchhab.fnVarints
open Go Go.ChangeShapes Go.WideShapes Go.ChangeAt Go.RowKit Go.Lib
open Go.ChangeMaps (open_string)
set_option linter.unusedVariables false
set_option linter.unusedSimpArgs false
set_option maxRecDepth 100000
set_option maxHeartbeats 16000000 in
theorem walk (A0 : Option Addr) (n0 c0 : Nat) (w0 : n0 ≤ maxLen) (w : World) (m0 : BytesAt w w.heap.size A0 n0) :
    Calls Try.prog 3 #[.slice A0 n0 c0] w fun e w' => e = .returned (.bool true) ∧ Below w.heap.size w w' := by
  have hn0 : n0 ≤ 9223372036854775807 := w0
  by_cases h : n0 ≤ 1048576
  · have g : decide ((1048576 : Int) < n0) = false := by simp; omega
    have M0 := Lib.hid m0
    clear m0
    go_enter Try.func3, Try.ntmps3
    go_wp2_with fail
    refine (big_any n0 c0 A0 _ w0).mono ?_
    rintro e w1 ⟨rfl, rfl⟩
    rw [g]
    go_wp2_with fail
    refine (drawAU_any n0 c0 A0 _ (by omega) M0.out).mono ?_
    rintro e w1 ⟨A, c, l, x, rfl, hx0, hx1, hl, hcp, hu, hr, hb⟩
    have WX := Lib.hid (show (Lit.int .i64 x).wf = true from WalkArith.wf_i64 (by constructor <;> omega))
    have WL := Lib.hid (show (Lit.int .i64 (l.length : Int)).wf = true from WalkArith.wf_i64 (by constructor <;> omega))
    have HB := Lib.hid hb
    have HR := Lib.hid hr
    have HU2 := Lib.hid (mAppU_u8 hu x)
    have hln := mAppU_len l x
    have CA := impl_AppendUvarint l A l.length c _ _ x w1 (by omega) hr (Lib.hid hu) WX.out
    have CR := fun (W : World) (A2 : Option Addr) (c2 lo hi : Nat) (h : Rd W lo hi 1 A2 (mAppU l x).length (u8s (mAppU l x))) (hc : (mAppU l x).length ≤ c2) => impl_ReadUvarintC (mAppU l x) A2 (mAppU l x).length c2 lo hi (l.length : Int) W (by omega) h hc HU2 WL.out
    cases hin : inR x 0 1000000000000
    · have e1 : mAppU l x = l := by unfold mAppU; rw [hin]; rfl
      rw [e1] at CA
      have CR2 : Hid (∀ (W : World) (A2 : Option Addr) (c2 lo hi : Nat), Rd W lo hi 1 A2 l.length (u8s l) → l.length ≤ c2 → Calls Try.prog 8 #[.slice A2 l.length c2, .int .i64 (l.length : Int)] W (Says (.tuple #[.int .i64 0, .int .i64 0, .bool false]) W)) := Lib.hid (fun W A2 c2 lo hi h hc => by rw [e1, mReadU_end] at CR; exact CR W A2 c2 lo hi h hc)
      have CSm := Lib.hid (fun (W : World) (A2 : Option Addr) (c2 lo hi : Nat) {lo2 hi2 : Nat} (h : Rd W lo hi 1 A2 l.length (u8s l)) (h2 : Rd W lo2 hi2 1 A l.length (u8s l)) => show Calls Try.prog 9 #[.slice A2 l.length c2, .slice A l.length c] W (Says (.bool true) W) from
        (sb_byte l l A2 A l.length l.length c2 c _ _ _ _ W (by omega) (by omega) h h2).mono fun e w' hq => by
          obtain ⟨rfl, d4, rfl⟩ := hq
          exact ⟨by simp, below_dN (Below.refl _ _) d4⟩)
      replace CA := Lib.hid CA
      have hq : x < 0 ∨ 1000000000000 < x := by have := inR_false.1 hin; omega
      clear CR hu hr hb HU2 hln e1 hin
      rcases hq with hq | hq
      · have q1 : decide (x < 0) = true := by simpa using hq
        go_wp2_with fail
        refine CA.out.mono ?_
        rintro e w2 ⟨A2, c2, rfl, hF2, hb2⟩
        have HR2 := Lib.hid hF2.rd
        have HC2 := Lib.hid hF2.cap
        have HB2 := Lib.hid (below_trans HB.out hb2 (Nat.le_refl _))
        have HRl := Lib.hid (HR.out.new hb2)
        clear hF2 hb2
        go_wp2_with fail
        refine (CR2.out _ _ _ _ _ HR2.out HC2.out).mono ?_
        rintro e w3 ⟨rfl, hb3⟩
        have HB3 := Lib.hid (below_trans HB2.out hb3 (Nat.le_refl _))
        have HR3 := Lib.hid (HR2.out.new hb3)
        have HRl3 := Lib.hid (HRl.out.new hb3)
        clear hb3
        go_wp2_with fail
        refine (CSm.out _ _ _ _ _ HR3.out HRl3.out).mono ?_
        rintro e w4 ⟨rfl, hb4⟩
        have HB4 := Lib.hid (below_trans HB3.out hb4 (Nat.le_refl _))
        clear hb4
        go_wp2_with fail
        refine (drawRU_any n0 c0 A0 _ (by omega) (bytes_below M0.out HB4.out)).mono ?_
        rintro e u1 ⟨A', c', l', o, rfl, ho0, ho1, hl', hcp', hu', hr', hb'⟩
        have HBv := Lib.hid (below_trans HB4.out hb' (Nat.le_refl _))
        have HU' := Lib.hid hu'
        have HR' := Lib.hid hr'
        have WO := Lib.hid (show (Lit.int .i64 o).wf = true from WalkArith.wf_i64 (by constructor <;> omega))
        have CR' := impl_ReadUvarintC l' A' l'.length c' _ _ o u1 (by omega) hr' hcp' HU' WO.out
        cases hok : (mReadU l' o).ok
        · have CR2 : Calls Try.prog 8 #[.slice A' l'.length c', .int .i64 o] u1 (Says (.tuple #[.int .i64 0, .int .i64 0, .bool false]) u1) := by rw [mReadU_no hok] at CR'; exact CR'
          have CS0 := fun W (h : Rd W w4.heap.size u1.heap.size 1 A' l'.length (u8s l')) => spec_ReadUvarint l' A' l'.length c' _ _ o W (by omega) h hcp' HU' WO.out
          have CS2 : Hid (∀ W, Rd W w4.heap.size u1.heap.size 1 A' l'.length (u8s l') → Calls Try.prog 11 #[.slice A' l'.length c', .int .i64 o] W (Says (.tuple #[.int .i64 0, .int .i64 0, .bool false]) W)) := Lib.hid (fun W h => by have h2 := CS0 W h; rw [mReadU_no hok] at h2; exact h2)
          replace CR2 := Lib.hid CR2
          clear CR' CS0 hok hu' hr' hb' hcp'
          go_wp2_with fail
          refine CR2.out.mono ?_
          rintro e u2 ⟨rfl, hb2⟩
          have HBu := Lib.hid (below_trans HBv.out hb2 (Nat.le_refl _))
          have HRu := Lib.hid (HR'.out.new hb2)
          clear hb2
          go_wp2_with fail
          refine (CS2.out _ HRu.out).mono ?_
          rintro e u3 ⟨rfl, hb3⟩
          have HBe := Lib.hid (below_trans HBu.out hb3 (Nat.le_refl _))
          clear hb3
          go_wp2_with fail
          go_ret
          exact ⟨by first | rfl | simp, HBe.out⟩
        · obtain ⟨o, v, E, rfl, hR, hv, hoE, hEl, htk, hEn⟩ := mReadU_yes hu' hok
          have CR2 : Calls Try.prog 8 #[.slice A' l'.length c', .int .i64 (o : Int)] u1 (Says (.tuple #[.int .i64 (v : Int), .int .i64 (E : Int), .bool true]) u1) := by rw [hR] at CR'; exact CR'
          obtain ⟨b, off, rfl, _, _, _⟩ := hr'.2 (show 0 < l'.length by omega)
          have hEm : mAppU [] (v : Int) = uv v := by unfold mAppU; rw [if_pos (inR_true.2 ⟨by omega, by omega⟩)]; simp
          have CA := Lib.hid (fun (W : World) (g : Nat) => show Calls Try.prog 7 #[.slice (some ⟨g, 0, none⟩) 0 0, .int .i64 (v : Int)] W (Makes 5 1 (uv v).length (u8s (uv v)) W) from by
            have h := impl_AppendUvarint [] (some ⟨g, 0, none⟩) 0 0 0 0 (v : Int) W (by omega) (rd_zero _ _ _ _) (Lib.hid (fun _ h => by cases h)) (WalkArith.wf_i64 (by constructor <;> omega))
            rw [hEm] at h
            exact h)
          have hu7 : (uv v).length ≤ 7 := uv_len6 hv
          have CS := Lib.hid (fun (W : World) (AK : Option Addr) (cK lo hi : Nat) (h : Rd W lo hi 1 AK (uv v).length (u8s (uv v))) {lo2 hi2 c2 : Nat} (h2 : Rd W lo2 hi2 1 (some ⟨b, off + o, none⟩) (E - o) (u8s (uv v))) => show Calls Try.prog 9 #[.slice AK (uv v).length cK, .slice (some ⟨b, off + o, none⟩) (E - o) c2] W (Says (.bool true) W) from
            (sb_byte (uv v) (uv v) AK (some ⟨b, off + o, none⟩) (uv v).length (E - o) cK c2 _ _ _ _ W (by omega) (by omega) h h2).mono fun e w' hq => by
              obtain ⟨rfl, d4, rfl⟩ := hq
              exact ⟨by simp, below_dN (Below.refl _ _) d4⟩)
          have HRq := Lib.hid (show Rd u1 w4.heap.size u1.heap.size 1 (some ⟨b, off + o, none⟩) (E - o) (u8s (uv v)) from htk ▸ rd_sub hr' (show o + (E - o) ≤ l'.length by omega))
          replace CR2 := Lib.hid CR2
          have hEc : E ≤ c' := by omega
          have hoE2 : o ≤ E := by omega
          have hco : ¬ c' = o := by omega
          generalize (uv v).length = L at CA CS
          clear CR' hok hu' hr' hb' hR htk hEm hEn hu7 HU' WO
          go_wp2_with fail
          refine CR2.out.mono ?_
          rintro e u2 ⟨rfl, hb2⟩
          have HBu := Lib.hid (below_trans HBv.out hb2 (Nat.le_refl _))
          have HRs := Lib.hid (HRq.out.new hb2)
          clear hb2
          go_wp2_with fail
          refine wp_region_held_drew (S := fun w' => Below u2.heap.size u2 w') (by kernel_rfl) ?_ (fun hHeld => ?_)
          · exact (Below.refl _ _).drew
          generalize (World.drew _) = x0 at hHeld ⊢
          refine wpAnyH_take (i := 0) (oi := ⟨some 92, _, _, _, _, _⟩) (v := ?_) rfl (by kernel_rfl) (by kernel_rfl) (by kernel_rfl) (fun _ _ _ h => h) (Or.inl ⟨by kernel_rfl, ?_⟩) hHeld ?_
          rotate_left
          focus (intro W hS; skip; clear hS; first | (go_simp; done) | (go_simp; with_reducible rfl))
          try simp only [Act.put, List.setIfInBounds_toArray, List.set_cons_zero, List.set_cons_succ]
          refine wpAnyH_take (i := 1) (oi := ⟨some 93, _, _, _, _, _⟩) (v := ?_) rfl (by kernel_rfl) (by kernel_rfl) (by kernel_rfl) (fun _ _ _ h => h) (Or.inl ⟨by kernel_rfl, ?_⟩) hHeld ?_
          rotate_left
          focus (intro W hS; skip; clear hS; first | (go_simp; done) | (go_simp; with_reducible rfl))
          try simp only [Act.put, List.setIfInBounds_toArray, List.set_cons_zero, List.set_cons_succ]
          refine wpAnyH_take (i := 2) (oi := ⟨some 94, _, _, _, _, _⟩) (v := ?_) rfl (by kernel_rfl) (by kernel_rfl) (by kernel_rfl) (fun _ _ _ h => h) (Or.inl ⟨by kernel_rfl, ?_⟩) hHeld ?_
          rotate_left
          focus (intro W hS; skip; clear hS; first | (go_simp; done) | (go_simp; with_reducible rfl))
          try simp only [Act.put, List.setIfInBounds_toArray, List.set_cons_zero, List.set_cons_succ]
          refine wpAnyH_take (i := 3) (oi := ⟨some 95, _, _, _, _, _⟩) (v := ?_) rfl (by kernel_rfl) (by kernel_rfl) (by kernel_rfl) (fun _ _ _ h => h) (Or.inl ⟨by kernel_rfl, ?_⟩) hHeld ?_
          rotate_left
          focus (intro W hS; skip; clear hS; first | (go_simp; done) | (go_simp; with_reducible rfl))
          try simp only [Act.put, List.setIfInBounds_toArray, List.set_cons_zero, List.set_cons_succ]
          refine wpAnyH_take (i := 4) (oi := ⟨some 96, _, _, _, _, _⟩) (v := ?_) rfl (by kernel_rfl) (by kernel_rfl) (by kernel_rfl) (fun _ _ _ h => h) (Or.inl ⟨by kernel_rfl, ?_⟩) hHeld ?_
          rotate_left
          focus (intro W hS; skip; clear hS; first | (go_simp; done) | (go_simp; with_reducible rfl))
          try simp only [Act.put, List.setIfInBounds_toArray, List.set_cons_zero, List.set_cons_succ]
          refine wpAnyH_take (i := 5) (oi := ⟨some 97, _, _, _, _, _⟩) (v := ?_) rfl (by kernel_rfl) (by kernel_rfl) (by kernel_rfl) (fun _ _ _ h => h) (Or.inl ⟨by kernel_rfl, ?_⟩) hHeld ?_
          rotate_left
          focus (intro W hS; skip; clear hS; first | (go_simp; done) | (go_simp; with_reducible rfl))
          try simp only [Act.put, List.setIfInBounds_toArray, List.set_cons_zero, List.set_cons_succ]
          refine wpAnyH_take (i := 6) (oi := ⟨some 98, _, _, _, _, _⟩) (v := ?_) rfl (by kernel_rfl) (by kernel_rfl) (by kernel_rfl) (fun _ _ _ h => h) (Or.inl ⟨by kernel_rfl, ?_⟩) hHeld ?_
          rotate_left
          focus (intro W hS; skip; clear hS; first | (go_simp; done) | (go_simp; with_reducible rfl))
          try simp only [Act.put, List.setIfInBounds_toArray, List.set_cons_zero, List.set_cons_succ]
          refine wpAnyH_take (i := 7) (oi := ⟨some 99, _, _, _, _, _⟩) (v := ?_) rfl (by kernel_rfl) (by kernel_rfl) (by kernel_rfl) (fun _ _ _ h => h) (Or.inl ⟨by kernel_rfl, ?_⟩) hHeld ?_
          rotate_left
          focus (intro W hS; skip; clear hS; first | (go_simp; done) | (go_simp; with_reducible rfl))
          try simp only [Act.put, List.setIfInBounds_toArray, List.set_cons_zero, List.set_cons_succ]
          refine wpAnyH_take (i := 8) (oi := ⟨some 100, _, _, _, _, _⟩) (v := ?_) rfl (by kernel_rfl) (by kernel_rfl) (by kernel_rfl) (fun _ _ _ h => h) (Or.inl ⟨by kernel_rfl, ?_⟩) hHeld ?_
          rotate_left
          focus (intro W hS; skip; clear hS; first | (go_simp; done) | (go_simp; with_reducible rfl))
          try simp only [Act.put, List.setIfInBounds_toArray, List.set_cons_zero, List.set_cons_succ]
          refine wpAnyH_take (i := 9) (oi := ⟨some 101, _, _, _, _, _⟩) (v := ?_) rfl (by kernel_rfl) (by kernel_rfl) (by kernel_rfl) (fun _ _ _ h => h) (Or.inl ⟨by kernel_rfl, ?_⟩) hHeld ?_
          rotate_left
          focus (intro W hS; skip; clear hS; first | (go_simp; done) | (go_simp; with_reducible rfl))
          try simp only [Act.put, List.setIfInBounds_toArray, List.set_cons_zero, List.set_cons_succ]
          refine wpAnyH_take (i := 10) (oi := ⟨some 102, _, _, _, _, _⟩) (v := ?_) rfl (by kernel_rfl) (by kernel_rfl) (by kernel_rfl) (fun _ _ _ h => h) (Or.inl ⟨by kernel_rfl, ?_⟩) hHeld ?_
          rotate_left
          focus (intro W hS; skip; clear hS; first | (go_simp; done) | (go_simp; with_reducible rfl))
          try simp only [Act.put, List.setIfInBounds_toArray, List.set_cons_zero, List.set_cons_succ]
          refine wpAnyH_take (i := 11) (oi := ⟨some 103, _, _, _, _, _⟩) (v := ?_) rfl (by kernel_rfl) (by kernel_rfl) (by kernel_rfl) (fun _ _ _ h => h) (Or.inl ⟨by kernel_rfl, ?_⟩) hHeld ?_
          rotate_left
          focus (intro W hS; skip; clear hS; first | (go_simp; done) | (go_simp; with_reducible rfl))
          try simp only [Act.put, List.setIfInBounds_toArray, List.set_cons_zero, List.set_cons_succ]
          refine wpAnyH_take (i := 12) (oi := ⟨some 104, _, _, _, _, _⟩) (v := ?_) rfl (by kernel_rfl) (by kernel_rfl) (by kernel_rfl) (fun _ _ _ h => h) (Or.inl ⟨by kernel_rfl, ?_⟩) hHeld ?_
          rotate_left
          focus (intro W hS; skip; clear hS; first | (go_simp; done) | (go_simp; with_reducible rfl))
          try simp only [Act.put, List.setIfInBounds_toArray, List.set_cons_zero, List.set_cons_succ]
          refine wpAnyH_take (i := 13) (oi := ⟨some 105, _, _, _, _, _⟩) (v := ?_) rfl (by kernel_rfl) (by kernel_rfl) (by kernel_rfl) (fun _ _ _ h => h) (Or.inl ⟨by kernel_rfl, ?_⟩) hHeld ?_
          rotate_left
          focus (intro W hS; skip; clear hS; first | (go_simp; done) | (go_simp; with_reducible rfl))
          try simp only [Act.put, List.setIfInBounds_toArray, List.set_cons_zero, List.set_cons_succ]
          refine wpAnyH_take (i := 15) (oi := ⟨some 107, _, _, _, _, _⟩) (v := ?_) rfl (by kernel_rfl) (by kernel_rfl) (by kernel_rfl) (fun _ _ _ h => h) (Or.inl ⟨by kernel_rfl, ?_⟩) hHeld ?_
          rotate_left
          focus (intro W hS; skip; clear hS; first | (go_simp; done) | (go_simp; with_reducible rfl))
          try simp only [Act.put, List.setIfInBounds_toArray, List.set_cons_zero, List.set_cons_succ]
          refine wpAnyH_take (i := 17) (oi := ⟨some 109, _, _, _, _, _⟩) (v := ?_) rfl (by kernel_rfl) (by kernel_rfl) (by kernel_rfl) (fun _ _ _ h => h) (Or.inl ⟨by kernel_rfl, ?_⟩) hHeld ?_
          rotate_left
          focus (intro W hS; skip; clear hS; first | (go_simp; done) | (go_simp; with_reducible rfl))
          try simp only [Act.put, List.setIfInBounds_toArray, List.set_cons_zero, List.set_cons_succ]
          refine wpAnyH_take (i := 18) (oi := ⟨some 110, _, _, _, _, _⟩) (v := ?_) rfl (by kernel_rfl) (by kernel_rfl) (by kernel_rfl) (fun _ _ _ h => h) (Or.inl ⟨by kernel_rfl, ?_⟩) hHeld ?_
          rotate_left
          focus (intro W hS; skip; clear hS; first | (go_simp; done) | (go_simp; with_reducible rfl))
          try simp only [Act.put, List.setIfInBounds_toArray, List.set_cons_zero, List.set_cons_succ]
          refine wpAnyH_take (i := 19) (oi := ⟨some 111, _, _, _, _, _⟩) (v := ?_) rfl (by kernel_rfl) (by kernel_rfl) (by kernel_rfl) (fun _ _ _ h => h) (Or.inl ⟨by kernel_rfl, ?_⟩) hHeld ?_
          rotate_left
          focus (intro W hS; skip; clear hS; first | (go_simp; done) | (go_simp; with_reducible rfl))
          try simp only [Act.put, List.setIfInBounds_toArray, List.set_cons_zero, List.set_cons_succ]
          refine wpAnyH_take (i := 20) (oi := ⟨some 112, _, _, _, _, _⟩) (v := ?_) rfl (by kernel_rfl) (by kernel_rfl) (by kernel_rfl) (fun _ _ _ h => h) (Or.inl ⟨by kernel_rfl, ?_⟩) hHeld ?_
          rotate_left
          focus (intro W hS; skip; clear hS; first | (go_simp; done) | (go_simp; with_reducible rfl))
          try simp only [Act.put, List.setIfInBounds_toArray, List.set_cons_zero, List.set_cons_succ]
          refine wpAnyH_ready (rs := [14]) (by kernel_rfl) (by simp) ?_
          refine AllReadyH.cons (o := ⟨some 106, _, _, _, _, _⟩) rfl (fun K hK => ?_) AllReadyH.nil
          go_simp
          have GL := box_new (x0) 5 #[]
          have hb1 := (Below.refl (x0).heap.size (x0)).alloc (Nat.le_refl _) (.cells #[] 5)
          have LL : u2.heap.size ≤ (x0).heap.size := by have := (hHeld).size; omega
          generalize (x0).alloc (.cells #[] 5) = x1 at hb1 GL  ⊢
          generalize hg : (x0).heap.size = gL at GL LL  ⊢
          clear hg
          refine hK.out _ _ (below_trans hHeld hb1 (Nat.le_refl _)) (fun hHeld' => ?_)
          clear hK K hHeld hb1
          have hHeld := hHeld'
          clear hHeld'
          try simp only [Act.put, List.setIfInBounds_toArray, List.set_cons_zero, List.set_cons_succ]
          refine wpAnyH_ready (rs := [16]) (by kernel_rfl) (by simp) ?_
          refine AllReadyH.cons (o := ⟨some 108, _, _, _, _, _⟩) rfl (fun K hK => ?_) AllReadyH.nil
          go_simp
          refine Calls.mono (CA.out _ gL) ?_
          rintro e x2 ⟨AK, cK, rfl, GK, hb1⟩
          replace GL := GL.new hb1
          refine hK.out _ _ (below_trans hHeld hb1 (Nat.le_refl _)) (fun hHeld' => ?_)
          clear hK K hHeld hb1
          have hHeld := hHeld'
          clear hHeld'
          try simp only [Act.put, List.setIfInBounds_toArray, List.set_cons_zero, List.set_cons_succ]
          refine wpAnyH_ready (rs := [21]) (by kernel_rfl) (by simp) ?_
          refine AllReadyH.cons (o := ⟨some 113, _, _, _, _, _⟩) rfl (fun K hK => ?_) AllReadyH.nil
          go_simp
          refine Calls.mono (CS.out _ _ _ _ _ GK.rd (HRs.out.new hHeld)) ?_
          rintro e x3 ⟨rfl, hb1⟩
          replace GL := GL.new hb1
          replace GK := GK.new hb1
          refine hK.out _ _ (below_trans hHeld hb1 (Nat.le_refl _)) (fun hHeld' => ?_)
          clear hK K hHeld hb1
          have hHeld := hHeld'
          clear hHeld'
          try simp only [Act.put, List.setIfInBounds_toArray, List.set_cons_zero, List.set_cons_succ]
          refine wpAnyH_take (i := 22) (oi := ⟨some 114, _, _, _, _, _⟩) (v := ?_) rfl (by kernel_rfl) (by kernel_rfl) (by kernel_rfl) (fun _ _ _ h => h) (Or.inl ⟨by kernel_rfl, ?_⟩) hHeld ?_
          rotate_left
          focus (intro W hS; skip; clear hS; first | (go_simp; done) | (go_simp; with_reducible rfl))
          try simp only [Act.put, List.setIfInBounds_toArray, List.set_cons_zero, List.set_cons_succ]
          refine wpAnyH_take (i := 23) (oi := ⟨some 2, _, _, _, _, _⟩) (v := ?_) rfl (by kernel_rfl) (by kernel_rfl) (by kernel_rfl) (fun _ _ _ h => h) (Or.inl ⟨by kernel_rfl, ?_⟩) hHeld ?_
          rotate_left
          focus (intro W hS; skip; clear hS; first | (go_simp; done) | (go_simp; with_reducible rfl))
          try simp only [Act.put, List.setIfInBounds_toArray, List.set_cons_zero, List.set_cons_succ]
          refine wpAnyH_done (by kernel_rfl) ?_ _
          have HBe := Lib.hid (below_trans HBu.out hHeld (Nat.le_refl _))
          clear hHeld
          go_wp2_with fail
          go_ret
          exact ⟨by first | rfl | simp, HBe.out⟩
      · have q1 : decide (x < 0) = false := by simp; omega
        have q2 : decide (1000000000000 < x) = true := by simpa using hq
        go_wp2_with fail
        refine CA.out.mono ?_
        rintro e w2 ⟨A2, c2, rfl, hF2, hb2⟩
        have HR2 := Lib.hid hF2.rd
        have HC2 := Lib.hid hF2.cap
        have HB2 := Lib.hid (below_trans HB.out hb2 (Nat.le_refl _))
        have HRl := Lib.hid (HR.out.new hb2)
        clear hF2 hb2
        go_wp2_with fail
        refine (CR2.out _ _ _ _ _ HR2.out HC2.out).mono ?_
        rintro e w3 ⟨rfl, hb3⟩
        have HB3 := Lib.hid (below_trans HB2.out hb3 (Nat.le_refl _))
        have HR3 := Lib.hid (HR2.out.new hb3)
        have HRl3 := Lib.hid (HRl.out.new hb3)
        clear hb3
        go_wp2_with fail
        refine (CSm.out _ _ _ _ _ HR3.out HRl3.out).mono ?_
        rintro e w4 ⟨rfl, hb4⟩
        have HB4 := Lib.hid (below_trans HB3.out hb4 (Nat.le_refl _))
        clear hb4
        go_wp2_with fail
        refine (drawRU_any n0 c0 A0 _ (by omega) (bytes_below M0.out HB4.out)).mono ?_
        rintro e u1 ⟨A', c', l', o, rfl, ho0, ho1, hl', hcp', hu', hr', hb'⟩
        have HBv := Lib.hid (below_trans HB4.out hb' (Nat.le_refl _))
        have HU' := Lib.hid hu'
        have HR' := Lib.hid hr'
        have WO := Lib.hid (show (Lit.int .i64 o).wf = true from WalkArith.wf_i64 (by constructor <;> omega))
        have CR' := impl_ReadUvarintC l' A' l'.length c' _ _ o u1 (by omega) hr' hcp' HU' WO.out
        cases hok : (mReadU l' o).ok
        · have CR2 : Calls Try.prog 8 #[.slice A' l'.length c', .int .i64 o] u1 (Says (.tuple #[.int .i64 0, .int .i64 0, .bool false]) u1) := by rw [mReadU_no hok] at CR'; exact CR'
          have CS0 := fun W (h : Rd W w4.heap.size u1.heap.size 1 A' l'.length (u8s l')) => spec_ReadUvarint l' A' l'.length c' _ _ o W (by omega) h hcp' HU' WO.out
          have CS2 : Hid (∀ W, Rd W w4.heap.size u1.heap.size 1 A' l'.length (u8s l') → Calls Try.prog 11 #[.slice A' l'.length c', .int .i64 o] W (Says (.tuple #[.int .i64 0, .int .i64 0, .bool false]) W)) := Lib.hid (fun W h => by have h2 := CS0 W h; rw [mReadU_no hok] at h2; exact h2)
          replace CR2 := Lib.hid CR2
          clear CR' CS0 hok hu' hr' hb' hcp'
          go_wp2_with fail
          refine CR2.out.mono ?_
          rintro e u2 ⟨rfl, hb2⟩
          have HBu := Lib.hid (below_trans HBv.out hb2 (Nat.le_refl _))
          have HRu := Lib.hid (HR'.out.new hb2)
          clear hb2
          go_wp2_with fail
          refine (CS2.out _ HRu.out).mono ?_
          rintro e u3 ⟨rfl, hb3⟩
          have HBe := Lib.hid (below_trans HBu.out hb3 (Nat.le_refl _))
          clear hb3
          go_wp2_with fail
          go_ret
          exact ⟨by first | rfl | simp, HBe.out⟩
        · obtain ⟨o, v, E, rfl, hR, hv, hoE, hEl, htk, hEn⟩ := mReadU_yes hu' hok
          have CR2 : Calls Try.prog 8 #[.slice A' l'.length c', .int .i64 (o : Int)] u1 (Says (.tuple #[.int .i64 (v : Int), .int .i64 (E : Int), .bool true]) u1) := by rw [hR] at CR'; exact CR'
          obtain ⟨b, off, rfl, _, _, _⟩ := hr'.2 (show 0 < l'.length by omega)
          have hEm : mAppU [] (v : Int) = uv v := by unfold mAppU; rw [if_pos (inR_true.2 ⟨by omega, by omega⟩)]; simp
          have CA := Lib.hid (fun (W : World) (g : Nat) => show Calls Try.prog 7 #[.slice (some ⟨g, 0, none⟩) 0 0, .int .i64 (v : Int)] W (Makes 5 1 (uv v).length (u8s (uv v)) W) from by
            have h := impl_AppendUvarint [] (some ⟨g, 0, none⟩) 0 0 0 0 (v : Int) W (by omega) (rd_zero _ _ _ _) (Lib.hid (fun _ h => by cases h)) (WalkArith.wf_i64 (by constructor <;> omega))
            rw [hEm] at h
            exact h)
          have hu7 : (uv v).length ≤ 7 := uv_len6 hv
          have CS := Lib.hid (fun (W : World) (AK : Option Addr) (cK lo hi : Nat) (h : Rd W lo hi 1 AK (uv v).length (u8s (uv v))) {lo2 hi2 c2 : Nat} (h2 : Rd W lo2 hi2 1 (some ⟨b, off + o, none⟩) (E - o) (u8s (uv v))) => show Calls Try.prog 9 #[.slice AK (uv v).length cK, .slice (some ⟨b, off + o, none⟩) (E - o) c2] W (Says (.bool true) W) from
            (sb_byte (uv v) (uv v) AK (some ⟨b, off + o, none⟩) (uv v).length (E - o) cK c2 _ _ _ _ W (by omega) (by omega) h h2).mono fun e w' hq => by
              obtain ⟨rfl, d4, rfl⟩ := hq
              exact ⟨by simp, below_dN (Below.refl _ _) d4⟩)
          have HRq := Lib.hid (show Rd u1 w4.heap.size u1.heap.size 1 (some ⟨b, off + o, none⟩) (E - o) (u8s (uv v)) from htk ▸ rd_sub hr' (show o + (E - o) ≤ l'.length by omega))
          replace CR2 := Lib.hid CR2
          have hEc : E ≤ c' := by omega
          have hoE2 : o ≤ E := by omega
          have hco : ¬ c' = o := by omega
          generalize (uv v).length = L at CA CS
          clear CR' hok hu' hr' hb' hR htk hEm hEn hu7 HU' WO
          go_wp2_with fail
          refine CR2.out.mono ?_
          rintro e u2 ⟨rfl, hb2⟩
          have HBu := Lib.hid (below_trans HBv.out hb2 (Nat.le_refl _))
          have HRs := Lib.hid (HRq.out.new hb2)
          clear hb2
          go_wp2_with fail
          refine wp_region_held_drew (S := fun w' => Below u2.heap.size u2 w') (by kernel_rfl) ?_ (fun hHeld => ?_)
          · exact (Below.refl _ _).drew
          generalize (World.drew _) = x0 at hHeld ⊢
          refine wpAnyH_take (i := 0) (oi := ⟨some 92, _, _, _, _, _⟩) (v := ?_) rfl (by kernel_rfl) (by kernel_rfl) (by kernel_rfl) (fun _ _ _ h => h) (Or.inl ⟨by kernel_rfl, ?_⟩) hHeld ?_
          rotate_left
          focus (intro W hS; skip; clear hS; first | (go_simp; done) | (go_simp; with_reducible rfl))
          try simp only [Act.put, List.setIfInBounds_toArray, List.set_cons_zero, List.set_cons_succ]
          refine wpAnyH_take (i := 1) (oi := ⟨some 93, _, _, _, _, _⟩) (v := ?_) rfl (by kernel_rfl) (by kernel_rfl) (by kernel_rfl) (fun _ _ _ h => h) (Or.inl ⟨by kernel_rfl, ?_⟩) hHeld ?_
          rotate_left
          focus (intro W hS; skip; clear hS; first | (go_simp; done) | (go_simp; with_reducible rfl))
          try simp only [Act.put, List.setIfInBounds_toArray, List.set_cons_zero, List.set_cons_succ]
          refine wpAnyH_take (i := 2) (oi := ⟨some 94, _, _, _, _, _⟩) (v := ?_) rfl (by kernel_rfl) (by kernel_rfl) (by kernel_rfl) (fun _ _ _ h => h) (Or.inl ⟨by kernel_rfl, ?_⟩) hHeld ?_
          rotate_left
          focus (intro W hS; skip; clear hS; first | (go_simp; done) | (go_simp; with_reducible rfl))
          try simp only [Act.put, List.setIfInBounds_toArray, List.set_cons_zero, List.set_cons_succ]
          refine wpAnyH_take (i := 3) (oi := ⟨some 95, _, _, _, _, _⟩) (v := ?_) rfl (by kernel_rfl) (by kernel_rfl) (by kernel_rfl) (fun _ _ _ h => h) (Or.inl ⟨by kernel_rfl, ?_⟩) hHeld ?_
          rotate_left
          focus (intro W hS; skip; clear hS; first | (go_simp; done) | (go_simp; with_reducible rfl))
          try simp only [Act.put, List.setIfInBounds_toArray, List.set_cons_zero, List.set_cons_succ]
          refine wpAnyH_take (i := 4) (oi := ⟨some 96, _, _, _, _, _⟩) (v := ?_) rfl (by kernel_rfl) (by kernel_rfl) (by kernel_rfl) (fun _ _ _ h => h) (Or.inl ⟨by kernel_rfl, ?_⟩) hHeld ?_
          rotate_left
          focus (intro W hS; skip; clear hS; first | (go_simp; done) | (go_simp; with_reducible rfl))
          try simp only [Act.put, List.setIfInBounds_toArray, List.set_cons_zero, List.set_cons_succ]
          refine wpAnyH_take (i := 5) (oi := ⟨some 97, _, _, _, _, _⟩) (v := ?_) rfl (by kernel_rfl) (by kernel_rfl) (by kernel_rfl) (fun _ _ _ h => h) (Or.inl ⟨by kernel_rfl, ?_⟩) hHeld ?_
          rotate_left
          focus (intro W hS; skip; clear hS; first | (go_simp; done) | (go_simp; with_reducible rfl))
          try simp only [Act.put, List.setIfInBounds_toArray, List.set_cons_zero, List.set_cons_succ]
          refine wpAnyH_take (i := 6) (oi := ⟨some 98, _, _, _, _, _⟩) (v := ?_) rfl (by kernel_rfl) (by kernel_rfl) (by kernel_rfl) (fun _ _ _ h => h) (Or.inl ⟨by kernel_rfl, ?_⟩) hHeld ?_
          rotate_left
          focus (intro W hS; skip; clear hS; first | (go_simp; done) | (go_simp; with_reducible rfl))
          try simp only [Act.put, List.setIfInBounds_toArray, List.set_cons_zero, List.set_cons_succ]
          refine wpAnyH_take (i := 7) (oi := ⟨some 99, _, _, _, _, _⟩) (v := ?_) rfl (by kernel_rfl) (by kernel_rfl) (by kernel_rfl) (fun _ _ _ h => h) (Or.inl ⟨by kernel_rfl, ?_⟩) hHeld ?_
          rotate_left
          focus (intro W hS; skip; clear hS; first | (go_simp; done) | (go_simp; with_reducible rfl))
          try simp only [Act.put, List.setIfInBounds_toArray, List.set_cons_zero, List.set_cons_succ]
          refine wpAnyH_take (i := 8) (oi := ⟨some 100, _, _, _, _, _⟩) (v := ?_) rfl (by kernel_rfl) (by kernel_rfl) (by kernel_rfl) (fun _ _ _ h => h) (Or.inl ⟨by kernel_rfl, ?_⟩) hHeld ?_
          rotate_left
          focus (intro W hS; skip; clear hS; first | (go_simp; done) | (go_simp; with_reducible rfl))
          try simp only [Act.put, List.setIfInBounds_toArray, List.set_cons_zero, List.set_cons_succ]
          refine wpAnyH_take (i := 9) (oi := ⟨some 101, _, _, _, _, _⟩) (v := ?_) rfl (by kernel_rfl) (by kernel_rfl) (by kernel_rfl) (fun _ _ _ h => h) (Or.inl ⟨by kernel_rfl, ?_⟩) hHeld ?_
          rotate_left
          focus (intro W hS; skip; clear hS; first | (go_simp; done) | (go_simp; with_reducible rfl))
          try simp only [Act.put, List.setIfInBounds_toArray, List.set_cons_zero, List.set_cons_succ]
          refine wpAnyH_take (i := 10) (oi := ⟨some 102, _, _, _, _, _⟩) (v := ?_) rfl (by kernel_rfl) (by kernel_rfl) (by kernel_rfl) (fun _ _ _ h => h) (Or.inl ⟨by kernel_rfl, ?_⟩) hHeld ?_
          rotate_left
          focus (intro W hS; skip; clear hS; first | (go_simp; done) | (go_simp; with_reducible rfl))
          try simp only [Act.put, List.setIfInBounds_toArray, List.set_cons_zero, List.set_cons_succ]
          refine wpAnyH_take (i := 11) (oi := ⟨some 103, _, _, _, _, _⟩) (v := ?_) rfl (by kernel_rfl) (by kernel_rfl) (by kernel_rfl) (fun _ _ _ h => h) (Or.inl ⟨by kernel_rfl, ?_⟩) hHeld ?_
          rotate_left
          focus (intro W hS; skip; clear hS; first | (go_simp; done) | (go_simp; with_reducible rfl))
          try simp only [Act.put, List.setIfInBounds_toArray, List.set_cons_zero, List.set_cons_succ]
          refine wpAnyH_take (i := 12) (oi := ⟨some 104, _, _, _, _, _⟩) (v := ?_) rfl (by kernel_rfl) (by kernel_rfl) (by kernel_rfl) (fun _ _ _ h => h) (Or.inl ⟨by kernel_rfl, ?_⟩) hHeld ?_
          rotate_left
          focus (intro W hS; skip; clear hS; first | (go_simp; done) | (go_simp; with_reducible rfl))
          try simp only [Act.put, List.setIfInBounds_toArray, List.set_cons_zero, List.set_cons_succ]
          refine wpAnyH_take (i := 13) (oi := ⟨some 105, _, _, _, _, _⟩) (v := ?_) rfl (by kernel_rfl) (by kernel_rfl) (by kernel_rfl) (fun _ _ _ h => h) (Or.inl ⟨by kernel_rfl, ?_⟩) hHeld ?_
          rotate_left
          focus (intro W hS; skip; clear hS; first | (go_simp; done) | (go_simp; with_reducible rfl))
          try simp only [Act.put, List.setIfInBounds_toArray, List.set_cons_zero, List.set_cons_succ]
          refine wpAnyH_take (i := 15) (oi := ⟨some 107, _, _, _, _, _⟩) (v := ?_) rfl (by kernel_rfl) (by kernel_rfl) (by kernel_rfl) (fun _ _ _ h => h) (Or.inl ⟨by kernel_rfl, ?_⟩) hHeld ?_
          rotate_left
          focus (intro W hS; skip; clear hS; first | (go_simp; done) | (go_simp; with_reducible rfl))
          try simp only [Act.put, List.setIfInBounds_toArray, List.set_cons_zero, List.set_cons_succ]
          refine wpAnyH_take (i := 17) (oi := ⟨some 109, _, _, _, _, _⟩) (v := ?_) rfl (by kernel_rfl) (by kernel_rfl) (by kernel_rfl) (fun _ _ _ h => h) (Or.inl ⟨by kernel_rfl, ?_⟩) hHeld ?_
          rotate_left
          focus (intro W hS; skip; clear hS; first | (go_simp; done) | (go_simp; with_reducible rfl))
          try simp only [Act.put, List.setIfInBounds_toArray, List.set_cons_zero, List.set_cons_succ]
          refine wpAnyH_take (i := 18) (oi := ⟨some 110, _, _, _, _, _⟩) (v := ?_) rfl (by kernel_rfl) (by kernel_rfl) (by kernel_rfl) (fun _ _ _ h => h) (Or.inl ⟨by kernel_rfl, ?_⟩) hHeld ?_
          rotate_left
          focus (intro W hS; skip; clear hS; first | (go_simp; done) | (go_simp; with_reducible rfl))
          try simp only [Act.put, List.setIfInBounds_toArray, List.set_cons_zero, List.set_cons_succ]
          refine wpAnyH_take (i := 19) (oi := ⟨some 111, _, _, _, _, _⟩) (v := ?_) rfl (by kernel_rfl) (by kernel_rfl) (by kernel_rfl) (fun _ _ _ h => h) (Or.inl ⟨by kernel_rfl, ?_⟩) hHeld ?_
          rotate_left
          focus (intro W hS; skip; clear hS; first | (go_simp; done) | (go_simp; with_reducible rfl))
          try simp only [Act.put, List.setIfInBounds_toArray, List.set_cons_zero, List.set_cons_succ]
          refine wpAnyH_take (i := 20) (oi := ⟨some 112, _, _, _, _, _⟩) (v := ?_) rfl (by kernel_rfl) (by kernel_rfl) (by kernel_rfl) (fun _ _ _ h => h) (Or.inl ⟨by kernel_rfl, ?_⟩) hHeld ?_
          rotate_left
          focus (intro W hS; skip; clear hS; first | (go_simp; done) | (go_simp; with_reducible rfl))
          try simp only [Act.put, List.setIfInBounds_toArray, List.set_cons_zero, List.set_cons_succ]
          refine wpAnyH_ready (rs := [14]) (by kernel_rfl) (by simp) ?_
          refine AllReadyH.cons (o := ⟨some 106, _, _, _, _, _⟩) rfl (fun K hK => ?_) AllReadyH.nil
          go_simp
          have GL := box_new (x0) 5 #[]
          have hb1 := (Below.refl (x0).heap.size (x0)).alloc (Nat.le_refl _) (.cells #[] 5)
          have LL : u2.heap.size ≤ (x0).heap.size := by have := (hHeld).size; omega
          generalize (x0).alloc (.cells #[] 5) = x1 at hb1 GL  ⊢
          generalize hg : (x0).heap.size = gL at GL LL  ⊢
          clear hg
          refine hK.out _ _ (below_trans hHeld hb1 (Nat.le_refl _)) (fun hHeld' => ?_)
          clear hK K hHeld hb1
          have hHeld := hHeld'
          clear hHeld'
          try simp only [Act.put, List.setIfInBounds_toArray, List.set_cons_zero, List.set_cons_succ]
          refine wpAnyH_ready (rs := [16]) (by kernel_rfl) (by simp) ?_
          refine AllReadyH.cons (o := ⟨some 108, _, _, _, _, _⟩) rfl (fun K hK => ?_) AllReadyH.nil
          go_simp
          refine Calls.mono (CA.out _ gL) ?_
          rintro e x2 ⟨AK, cK, rfl, GK, hb1⟩
          replace GL := GL.new hb1
          refine hK.out _ _ (below_trans hHeld hb1 (Nat.le_refl _)) (fun hHeld' => ?_)
          clear hK K hHeld hb1
          have hHeld := hHeld'
          clear hHeld'
          try simp only [Act.put, List.setIfInBounds_toArray, List.set_cons_zero, List.set_cons_succ]
          refine wpAnyH_ready (rs := [21]) (by kernel_rfl) (by simp) ?_
          refine AllReadyH.cons (o := ⟨some 113, _, _, _, _, _⟩) rfl (fun K hK => ?_) AllReadyH.nil
          go_simp
          refine Calls.mono (CS.out _ _ _ _ _ GK.rd (HRs.out.new hHeld)) ?_
          rintro e x3 ⟨rfl, hb1⟩
          replace GL := GL.new hb1
          replace GK := GK.new hb1
          refine hK.out _ _ (below_trans hHeld hb1 (Nat.le_refl _)) (fun hHeld' => ?_)
          clear hK K hHeld hb1
          have hHeld := hHeld'
          clear hHeld'
          try simp only [Act.put, List.setIfInBounds_toArray, List.set_cons_zero, List.set_cons_succ]
          refine wpAnyH_take (i := 22) (oi := ⟨some 114, _, _, _, _, _⟩) (v := ?_) rfl (by kernel_rfl) (by kernel_rfl) (by kernel_rfl) (fun _ _ _ h => h) (Or.inl ⟨by kernel_rfl, ?_⟩) hHeld ?_
          rotate_left
          focus (intro W hS; skip; clear hS; first | (go_simp; done) | (go_simp; with_reducible rfl))
          try simp only [Act.put, List.setIfInBounds_toArray, List.set_cons_zero, List.set_cons_succ]
          refine wpAnyH_take (i := 23) (oi := ⟨some 2, _, _, _, _, _⟩) (v := ?_) rfl (by kernel_rfl) (by kernel_rfl) (by kernel_rfl) (fun _ _ _ h => h) (Or.inl ⟨by kernel_rfl, ?_⟩) hHeld ?_
          rotate_left
          focus (intro W hS; skip; clear hS; first | (go_simp; done) | (go_simp; with_reducible rfl))
          try simp only [Act.put, List.setIfInBounds_toArray, List.set_cons_zero, List.set_cons_succ]
          refine wpAnyH_done (by kernel_rfl) ?_ _
          have HBe := Lib.hid (below_trans HBu.out hHeld (Nat.le_refl _))
          clear hHeld
          go_wp2_with fail
          go_ret
          exact ⟨by first | rfl | simp, HBe.out⟩
    · obtain ⟨hx2, hx3⟩ := inR_true.1 hin
      have e1 : mAppU l x = l ++ uv x.toNat := by unfold mAppU; rw [hin]; rfl
      have e2 := mReadU_back l x ⟨hx2, hx3⟩
      rw [e1] at CA
      have CR2 : Hid (∀ (W : World) (A2 : Option Addr) (c2 lo hi : Nat), Rd W lo hi 1 A2 (l ++ uv x.toNat).length (u8s (l ++ uv x.toNat)) → (l ++ uv x.toNat).length ≤ c2 → Calls Try.prog 8 #[.slice A2 (l ++ uv x.toNat).length c2, .int .i64 (l.length : Int)] W (Says (.tuple #[.int .i64 x, .int .i64 ((l ++ uv x.toNat).length : Int), .bool true]) W)) := Lib.hid (fun W A2 c2 lo hi h hc => by rw [e1, e2] at CR; exact CR W A2 c2 lo hi h hc)
      have q1 : decide (x < 0) = false := by simp; omega
      have q2 : decide (1000000000000 < x) = false := by simp; omega
      replace CA := Lib.hid CA
      rw [e1] at hln
      generalize l ++ uv x.toNat = y at CA CR2 hln
      clear CR hu hr hb HU2 e1 e2 hin
      go_wp2_with fail
      refine CA.out.mono ?_
      rintro e w2 ⟨A2, c2, rfl, hF2, hb2⟩
      have HR2 := Lib.hid hF2.rd
      have HC2 := Lib.hid hF2.cap
      have HB2 := Lib.hid (below_trans HB.out hb2 (Nat.le_refl _))
      have HRl := Lib.hid (HR.out.new hb2)
      clear hF2 hb2
      go_wp2_with fail
      refine (CR2.out _ _ _ _ _ HR2.out HC2.out).mono ?_
      rintro e w3 ⟨rfl, hb3⟩
      have HB3 := Lib.hid (below_trans HB2.out hb3 (Nat.le_refl _))
      have HR3 := Lib.hid (HR2.out.new hb3)
      have HRl3 := Lib.hid (HRl.out.new hb3)
      clear hb3
      go_wp2_with fail
      refine (drawRU_any n0 c0 A0 _ (by omega) (bytes_below M0.out HB3.out)).mono ?_
      rintro e u1 ⟨A', c', l', o, rfl, ho0, ho1, hl', hcp', hu', hr', hb'⟩
      have HBv := Lib.hid (below_trans HB3.out hb' (Nat.le_refl _))
      have HU' := Lib.hid hu'
      have HR' := Lib.hid hr'
      have WO := Lib.hid (show (Lit.int .i64 o).wf = true from WalkArith.wf_i64 (by constructor <;> omega))
      have CR' := impl_ReadUvarintC l' A' l'.length c' _ _ o u1 (by omega) hr' hcp' HU' WO.out
      cases hok : (mReadU l' o).ok
      · have CR2 : Calls Try.prog 8 #[.slice A' l'.length c', .int .i64 o] u1 (Says (.tuple #[.int .i64 0, .int .i64 0, .bool false]) u1) := by rw [mReadU_no hok] at CR'; exact CR'
        have CS0 := fun W (h : Rd W w3.heap.size u1.heap.size 1 A' l'.length (u8s l')) => spec_ReadUvarint l' A' l'.length c' _ _ o W (by omega) h hcp' HU' WO.out
        have CS2 : Hid (∀ W, Rd W w3.heap.size u1.heap.size 1 A' l'.length (u8s l') → Calls Try.prog 11 #[.slice A' l'.length c', .int .i64 o] W (Says (.tuple #[.int .i64 0, .int .i64 0, .bool false]) W)) := Lib.hid (fun W h => by have h2 := CS0 W h; rw [mReadU_no hok] at h2; exact h2)
        replace CR2 := Lib.hid CR2
        clear CR' CS0 hok hu' hr' hb' hcp'
        go_wp2_with fail
        refine CR2.out.mono ?_
        rintro e u2 ⟨rfl, hb2⟩
        have HBu := Lib.hid (below_trans HBv.out hb2 (Nat.le_refl _))
        have HRu := Lib.hid (HR'.out.new hb2)
        clear hb2
        go_wp2_with fail
        refine (CS2.out _ HRu.out).mono ?_
        rintro e u3 ⟨rfl, hb3⟩
        have HBe := Lib.hid (below_trans HBu.out hb3 (Nat.le_refl _))
        clear hb3
        go_wp2_with fail
        go_ret
        exact ⟨by first | rfl | simp, HBe.out⟩
      · obtain ⟨o, v, E, rfl, hR, hv, hoE, hEl, htk, hEn⟩ := mReadU_yes hu' hok
        have CR2 : Calls Try.prog 8 #[.slice A' l'.length c', .int .i64 (o : Int)] u1 (Says (.tuple #[.int .i64 (v : Int), .int .i64 (E : Int), .bool true]) u1) := by rw [hR] at CR'; exact CR'
        obtain ⟨b, off, rfl, _, _, _⟩ := hr'.2 (show 0 < l'.length by omega)
        have hEm : mAppU [] (v : Int) = uv v := by unfold mAppU; rw [if_pos (inR_true.2 ⟨by omega, by omega⟩)]; simp
        have CA := Lib.hid (fun (W : World) (g : Nat) => show Calls Try.prog 7 #[.slice (some ⟨g, 0, none⟩) 0 0, .int .i64 (v : Int)] W (Makes 5 1 (uv v).length (u8s (uv v)) W) from by
          have h := impl_AppendUvarint [] (some ⟨g, 0, none⟩) 0 0 0 0 (v : Int) W (by omega) (rd_zero _ _ _ _) (Lib.hid (fun _ h => by cases h)) (WalkArith.wf_i64 (by constructor <;> omega))
          rw [hEm] at h
          exact h)
        have hu7 : (uv v).length ≤ 7 := uv_len6 hv
        have CS := Lib.hid (fun (W : World) (AK : Option Addr) (cK lo hi : Nat) (h : Rd W lo hi 1 AK (uv v).length (u8s (uv v))) {lo2 hi2 c2 : Nat} (h2 : Rd W lo2 hi2 1 (some ⟨b, off + o, none⟩) (E - o) (u8s (uv v))) => show Calls Try.prog 9 #[.slice AK (uv v).length cK, .slice (some ⟨b, off + o, none⟩) (E - o) c2] W (Says (.bool true) W) from
          (sb_byte (uv v) (uv v) AK (some ⟨b, off + o, none⟩) (uv v).length (E - o) cK c2 _ _ _ _ W (by omega) (by omega) h h2).mono fun e w' hq => by
            obtain ⟨rfl, d4, rfl⟩ := hq
            exact ⟨by simp, below_dN (Below.refl _ _) d4⟩)
        have HRq := Lib.hid (show Rd u1 w3.heap.size u1.heap.size 1 (some ⟨b, off + o, none⟩) (E - o) (u8s (uv v)) from htk ▸ rd_sub hr' (show o + (E - o) ≤ l'.length by omega))
        replace CR2 := Lib.hid CR2
        have hEc : E ≤ c' := by omega
        have hoE2 : o ≤ E := by omega
        have hco : ¬ c' = o := by omega
        generalize (uv v).length = L at CA CS
        clear CR' hok hu' hr' hb' hR htk hEm hEn hu7 HU' WO
        go_wp2_with fail
        refine CR2.out.mono ?_
        rintro e u2 ⟨rfl, hb2⟩
        have HBu := Lib.hid (below_trans HBv.out hb2 (Nat.le_refl _))
        have HRs := Lib.hid (HRq.out.new hb2)
        clear hb2
        go_wp2_with fail
        refine wp_region_held_drew (S := fun w' => Below u2.heap.size u2 w') (by kernel_rfl) ?_ (fun hHeld => ?_)
        · exact (Below.refl _ _).drew
        generalize (World.drew _) = x0 at hHeld ⊢
        refine wpAnyH_take (i := 0) (oi := ⟨some 92, _, _, _, _, _⟩) (v := ?_) rfl (by kernel_rfl) (by kernel_rfl) (by kernel_rfl) (fun _ _ _ h => h) (Or.inl ⟨by kernel_rfl, ?_⟩) hHeld ?_
        rotate_left
        focus (intro W hS; skip; clear hS; first | (go_simp; done) | (go_simp; with_reducible rfl))
        try simp only [Act.put, List.setIfInBounds_toArray, List.set_cons_zero, List.set_cons_succ]
        refine wpAnyH_take (i := 1) (oi := ⟨some 93, _, _, _, _, _⟩) (v := ?_) rfl (by kernel_rfl) (by kernel_rfl) (by kernel_rfl) (fun _ _ _ h => h) (Or.inl ⟨by kernel_rfl, ?_⟩) hHeld ?_
        rotate_left
        focus (intro W hS; skip; clear hS; first | (go_simp; done) | (go_simp; with_reducible rfl))
        try simp only [Act.put, List.setIfInBounds_toArray, List.set_cons_zero, List.set_cons_succ]
        refine wpAnyH_take (i := 2) (oi := ⟨some 94, _, _, _, _, _⟩) (v := ?_) rfl (by kernel_rfl) (by kernel_rfl) (by kernel_rfl) (fun _ _ _ h => h) (Or.inl ⟨by kernel_rfl, ?_⟩) hHeld ?_
        rotate_left
        focus (intro W hS; skip; clear hS; first | (go_simp; done) | (go_simp; with_reducible rfl))
        try simp only [Act.put, List.setIfInBounds_toArray, List.set_cons_zero, List.set_cons_succ]
        refine wpAnyH_take (i := 3) (oi := ⟨some 95, _, _, _, _, _⟩) (v := ?_) rfl (by kernel_rfl) (by kernel_rfl) (by kernel_rfl) (fun _ _ _ h => h) (Or.inl ⟨by kernel_rfl, ?_⟩) hHeld ?_
        rotate_left
        focus (intro W hS; skip; clear hS; first | (go_simp; done) | (go_simp; with_reducible rfl))
        try simp only [Act.put, List.setIfInBounds_toArray, List.set_cons_zero, List.set_cons_succ]
        refine wpAnyH_take (i := 4) (oi := ⟨some 96, _, _, _, _, _⟩) (v := ?_) rfl (by kernel_rfl) (by kernel_rfl) (by kernel_rfl) (fun _ _ _ h => h) (Or.inl ⟨by kernel_rfl, ?_⟩) hHeld ?_
        rotate_left
        focus (intro W hS; skip; clear hS; first | (go_simp; done) | (go_simp; with_reducible rfl))
        try simp only [Act.put, List.setIfInBounds_toArray, List.set_cons_zero, List.set_cons_succ]
        refine wpAnyH_take (i := 5) (oi := ⟨some 97, _, _, _, _, _⟩) (v := ?_) rfl (by kernel_rfl) (by kernel_rfl) (by kernel_rfl) (fun _ _ _ h => h) (Or.inl ⟨by kernel_rfl, ?_⟩) hHeld ?_
        rotate_left
        focus (intro W hS; skip; clear hS; first | (go_simp; done) | (go_simp; with_reducible rfl))
        try simp only [Act.put, List.setIfInBounds_toArray, List.set_cons_zero, List.set_cons_succ]
        refine wpAnyH_take (i := 6) (oi := ⟨some 98, _, _, _, _, _⟩) (v := ?_) rfl (by kernel_rfl) (by kernel_rfl) (by kernel_rfl) (fun _ _ _ h => h) (Or.inl ⟨by kernel_rfl, ?_⟩) hHeld ?_
        rotate_left
        focus (intro W hS; skip; clear hS; first | (go_simp; done) | (go_simp; with_reducible rfl))
        try simp only [Act.put, List.setIfInBounds_toArray, List.set_cons_zero, List.set_cons_succ]
        refine wpAnyH_take (i := 7) (oi := ⟨some 99, _, _, _, _, _⟩) (v := ?_) rfl (by kernel_rfl) (by kernel_rfl) (by kernel_rfl) (fun _ _ _ h => h) (Or.inl ⟨by kernel_rfl, ?_⟩) hHeld ?_
        rotate_left
        focus (intro W hS; skip; clear hS; first | (go_simp; done) | (go_simp; with_reducible rfl))
        try simp only [Act.put, List.setIfInBounds_toArray, List.set_cons_zero, List.set_cons_succ]
        refine wpAnyH_take (i := 8) (oi := ⟨some 100, _, _, _, _, _⟩) (v := ?_) rfl (by kernel_rfl) (by kernel_rfl) (by kernel_rfl) (fun _ _ _ h => h) (Or.inl ⟨by kernel_rfl, ?_⟩) hHeld ?_
        rotate_left
        focus (intro W hS; skip; clear hS; first | (go_simp; done) | (go_simp; with_reducible rfl))
        try simp only [Act.put, List.setIfInBounds_toArray, List.set_cons_zero, List.set_cons_succ]
        refine wpAnyH_take (i := 9) (oi := ⟨some 101, _, _, _, _, _⟩) (v := ?_) rfl (by kernel_rfl) (by kernel_rfl) (by kernel_rfl) (fun _ _ _ h => h) (Or.inl ⟨by kernel_rfl, ?_⟩) hHeld ?_
        rotate_left
        focus (intro W hS; skip; clear hS; first | (go_simp; done) | (go_simp; with_reducible rfl))
        try simp only [Act.put, List.setIfInBounds_toArray, List.set_cons_zero, List.set_cons_succ]
        refine wpAnyH_take (i := 10) (oi := ⟨some 102, _, _, _, _, _⟩) (v := ?_) rfl (by kernel_rfl) (by kernel_rfl) (by kernel_rfl) (fun _ _ _ h => h) (Or.inl ⟨by kernel_rfl, ?_⟩) hHeld ?_
        rotate_left
        focus (intro W hS; skip; clear hS; first | (go_simp; done) | (go_simp; with_reducible rfl))
        try simp only [Act.put, List.setIfInBounds_toArray, List.set_cons_zero, List.set_cons_succ]
        refine wpAnyH_take (i := 11) (oi := ⟨some 103, _, _, _, _, _⟩) (v := ?_) rfl (by kernel_rfl) (by kernel_rfl) (by kernel_rfl) (fun _ _ _ h => h) (Or.inl ⟨by kernel_rfl, ?_⟩) hHeld ?_
        rotate_left
        focus (intro W hS; skip; clear hS; first | (go_simp; done) | (go_simp; with_reducible rfl))
        try simp only [Act.put, List.setIfInBounds_toArray, List.set_cons_zero, List.set_cons_succ]
        refine wpAnyH_take (i := 12) (oi := ⟨some 104, _, _, _, _, _⟩) (v := ?_) rfl (by kernel_rfl) (by kernel_rfl) (by kernel_rfl) (fun _ _ _ h => h) (Or.inl ⟨by kernel_rfl, ?_⟩) hHeld ?_
        rotate_left
        focus (intro W hS; skip; clear hS; first | (go_simp; done) | (go_simp; with_reducible rfl))
        try simp only [Act.put, List.setIfInBounds_toArray, List.set_cons_zero, List.set_cons_succ]
        refine wpAnyH_take (i := 13) (oi := ⟨some 105, _, _, _, _, _⟩) (v := ?_) rfl (by kernel_rfl) (by kernel_rfl) (by kernel_rfl) (fun _ _ _ h => h) (Or.inl ⟨by kernel_rfl, ?_⟩) hHeld ?_
        rotate_left
        focus (intro W hS; skip; clear hS; first | (go_simp; done) | (go_simp; with_reducible rfl))
        try simp only [Act.put, List.setIfInBounds_toArray, List.set_cons_zero, List.set_cons_succ]
        refine wpAnyH_take (i := 15) (oi := ⟨some 107, _, _, _, _, _⟩) (v := ?_) rfl (by kernel_rfl) (by kernel_rfl) (by kernel_rfl) (fun _ _ _ h => h) (Or.inl ⟨by kernel_rfl, ?_⟩) hHeld ?_
        rotate_left
        focus (intro W hS; skip; clear hS; first | (go_simp; done) | (go_simp; with_reducible rfl))
        try simp only [Act.put, List.setIfInBounds_toArray, List.set_cons_zero, List.set_cons_succ]
        refine wpAnyH_take (i := 17) (oi := ⟨some 109, _, _, _, _, _⟩) (v := ?_) rfl (by kernel_rfl) (by kernel_rfl) (by kernel_rfl) (fun _ _ _ h => h) (Or.inl ⟨by kernel_rfl, ?_⟩) hHeld ?_
        rotate_left
        focus (intro W hS; skip; clear hS; first | (go_simp; done) | (go_simp; with_reducible rfl))
        try simp only [Act.put, List.setIfInBounds_toArray, List.set_cons_zero, List.set_cons_succ]
        refine wpAnyH_take (i := 18) (oi := ⟨some 110, _, _, _, _, _⟩) (v := ?_) rfl (by kernel_rfl) (by kernel_rfl) (by kernel_rfl) (fun _ _ _ h => h) (Or.inl ⟨by kernel_rfl, ?_⟩) hHeld ?_
        rotate_left
        focus (intro W hS; skip; clear hS; first | (go_simp; done) | (go_simp; with_reducible rfl))
        try simp only [Act.put, List.setIfInBounds_toArray, List.set_cons_zero, List.set_cons_succ]
        refine wpAnyH_take (i := 19) (oi := ⟨some 111, _, _, _, _, _⟩) (v := ?_) rfl (by kernel_rfl) (by kernel_rfl) (by kernel_rfl) (fun _ _ _ h => h) (Or.inl ⟨by kernel_rfl, ?_⟩) hHeld ?_
        rotate_left
        focus (intro W hS; skip; clear hS; first | (go_simp; done) | (go_simp; with_reducible rfl))
        try simp only [Act.put, List.setIfInBounds_toArray, List.set_cons_zero, List.set_cons_succ]
        refine wpAnyH_take (i := 20) (oi := ⟨some 112, _, _, _, _, _⟩) (v := ?_) rfl (by kernel_rfl) (by kernel_rfl) (by kernel_rfl) (fun _ _ _ h => h) (Or.inl ⟨by kernel_rfl, ?_⟩) hHeld ?_
        rotate_left
        focus (intro W hS; skip; clear hS; first | (go_simp; done) | (go_simp; with_reducible rfl))
        try simp only [Act.put, List.setIfInBounds_toArray, List.set_cons_zero, List.set_cons_succ]
        refine wpAnyH_ready (rs := [14]) (by kernel_rfl) (by simp) ?_
        refine AllReadyH.cons (o := ⟨some 106, _, _, _, _, _⟩) rfl (fun K hK => ?_) AllReadyH.nil
        go_simp
        have GL := box_new (x0) 5 #[]
        have hb1 := (Below.refl (x0).heap.size (x0)).alloc (Nat.le_refl _) (.cells #[] 5)
        have LL : u2.heap.size ≤ (x0).heap.size := by have := (hHeld).size; omega
        generalize (x0).alloc (.cells #[] 5) = x1 at hb1 GL  ⊢
        generalize hg : (x0).heap.size = gL at GL LL  ⊢
        clear hg
        refine hK.out _ _ (below_trans hHeld hb1 (Nat.le_refl _)) (fun hHeld' => ?_)
        clear hK K hHeld hb1
        have hHeld := hHeld'
        clear hHeld'
        try simp only [Act.put, List.setIfInBounds_toArray, List.set_cons_zero, List.set_cons_succ]
        refine wpAnyH_ready (rs := [16]) (by kernel_rfl) (by simp) ?_
        refine AllReadyH.cons (o := ⟨some 108, _, _, _, _, _⟩) rfl (fun K hK => ?_) AllReadyH.nil
        go_simp
        refine Calls.mono (CA.out _ gL) ?_
        rintro e x2 ⟨AK, cK, rfl, GK, hb1⟩
        replace GL := GL.new hb1
        refine hK.out _ _ (below_trans hHeld hb1 (Nat.le_refl _)) (fun hHeld' => ?_)
        clear hK K hHeld hb1
        have hHeld := hHeld'
        clear hHeld'
        try simp only [Act.put, List.setIfInBounds_toArray, List.set_cons_zero, List.set_cons_succ]
        refine wpAnyH_ready (rs := [21]) (by kernel_rfl) (by simp) ?_
        refine AllReadyH.cons (o := ⟨some 113, _, _, _, _, _⟩) rfl (fun K hK => ?_) AllReadyH.nil
        go_simp
        refine Calls.mono (CS.out _ _ _ _ _ GK.rd (HRs.out.new hHeld)) ?_
        rintro e x3 ⟨rfl, hb1⟩
        replace GL := GL.new hb1
        replace GK := GK.new hb1
        refine hK.out _ _ (below_trans hHeld hb1 (Nat.le_refl _)) (fun hHeld' => ?_)
        clear hK K hHeld hb1
        have hHeld := hHeld'
        clear hHeld'
        try simp only [Act.put, List.setIfInBounds_toArray, List.set_cons_zero, List.set_cons_succ]
        refine wpAnyH_take (i := 22) (oi := ⟨some 114, _, _, _, _, _⟩) (v := ?_) rfl (by kernel_rfl) (by kernel_rfl) (by kernel_rfl) (fun _ _ _ h => h) (Or.inl ⟨by kernel_rfl, ?_⟩) hHeld ?_
        rotate_left
        focus (intro W hS; skip; clear hS; first | (go_simp; done) | (go_simp; with_reducible rfl))
        try simp only [Act.put, List.setIfInBounds_toArray, List.set_cons_zero, List.set_cons_succ]
        refine wpAnyH_take (i := 23) (oi := ⟨some 2, _, _, _, _, _⟩) (v := ?_) rfl (by kernel_rfl) (by kernel_rfl) (by kernel_rfl) (fun _ _ _ h => h) (Or.inl ⟨by kernel_rfl, ?_⟩) hHeld ?_
        rotate_left
        focus (intro W hS; skip; clear hS; first | (go_simp; done) | (go_simp; with_reducible rfl))
        try simp only [Act.put, List.setIfInBounds_toArray, List.set_cons_zero, List.set_cons_succ]
        refine wpAnyH_done (by kernel_rfl) ?_ _
        have HBe := Lib.hid (below_trans HBu.out hHeld (Nat.le_refl _))
        clear hHeld
        go_wp2_with fail
        go_ret
        exact ⟨by first | rfl | simp, HBe.out⟩
  · have g : decide ((1048576 : Int) < n0) = true := by simp; omega
    go_enter Try.func3, Try.ntmps3
    go_wp2_with fail
    refine (big_any n0 c0 A0 _ w0).mono ?_
    rintro e w1 ⟨rfl, rfl⟩
    rw [g]
    go_wp2_with fail
    go_ret
    exact ⟨rfl, Below.refl _ _⟩

set_option maxRecDepth 100000 in
theorem lifted (os : Os) (started : os.Started) (H : Type) (enc : TypeId × Value → H) :
    ReturnsInHanded {} Try.checked os 3 .any (Rows.fnVarintsSpec.pre6 enc Try.prog Try.f3 Rows.fnVarintsRow.domain false) (Rows.fnVarintsSpec.post enc Try.prog Try.f3 false true false false) := by
  refine law_lifted Try.func3 (by kernel_rfl) rfl rfl (by kernel_rfl) os started
    (ChangeSpec.witness6 (enc := enc) (C := Try.checked) false ⟨#[], #[.slice none 0 0], []⟩ 8 (by kernel_rfl) (by kernel_rfl) (by kernel_rfl) (by kernel_rfl)) ?_
  intro W base args ds p hval hA hlt
  rw [Try.params3] at hA hval
  obtain ⟨v0, vs0, d0, ds0, p0, q0, hargs, rfl, rfl, h0, r0⟩ := trodAll_cons hA
  obtain ⟨rfl, rfl, rfl⟩ := trodAll_nil r0
  obtain rfl : args = #[v0] := by cases args; simp_all
  obtain ⟨A0, n0, c0, rfl, w0, m0⟩ := open_bytes (hval 0 22 v0 rfl rfl) h0 (fun x hx => hlt x (by simp [hx]))
  exact ⟨⟨rfl, rfl, rfl⟩, walk A0 n0 c0 w0 W m0⟩

theorem over : Rows.fnVarintsRow.holds Try.pinned (OpenSpec.ofChange Rows.fnVarintsSpec) :=
  OpenClaim.holds_of_wide 3 Try.f3 rfl rfl rfl rfl rfl rfl rfl ⟨rfl, rfl, rfl, rfl, rfl⟩ rfl rfl rfl rfl rfl (by kernel_rfl) Try.func3 (by kernel_rfl)
    (of_decide_eq_true (by kernel_rfl)) (by unfold Func.isWrapper; first | (rw [if_pos (by decide +kernel)]; kernel_rfl) | (rw [if_neg (by decide +kernel)]; exact ⟨rfl, rfl⟩))
    (fun os started H enc _ => lifted os started H enc)

theorem proved : Rows.FnVarintsSaid := over
#print axioms proved
end Go.Proofs.Ytkakdfphhnchhab.fnVarints
