/- The law FnLetters answers true for every argument, and leaves each argument as it was. No condition. -/
import Derived.Test.YtlnmgfbfpjfddaaDoorEFrame
import Derived.Test.YtlnmgfbfpjfddaaDoorLeM
import Derived.Test.YtlnmgfbfpjfddaaDoorDrE
import Derived.Deep.DeepCutAuto
import Derived.Deep.RegionHeld3
namespace Go.Proofs.YtlnmgfbfpjfddaaDoor.fnLetters
open Go Go.ChangeShapes Go.WideShapes Go.ChangeAt Go.RowKit Go.Lib
open Go.ChangeMaps (open_string)
set_option linter.unusedVariables false
set_option linter.unusedSimpArgs false
set_option maxRecDepth 100000
/-- What a drawn region keeps: the two boxes as they read, all that was there. -/
def DlW (w : World) (lo1 hi1 : Nat) (A1 : Option Addr) (n1 : Nat) (ys : List Value) (lo hi : Nat) (A : Option Addr) (n : Nat) (xs : List Value) (W : World) : Prop := Rd W lo1 hi1 4 A1 n1 ys ∧ Rd W lo hi 4 A n xs ∧ Below w.heap.size w W
theorem DlW.new {w W W' : World} {lo1 hi1 n1 lo hi n : Nat} {A1 A : Option Addr} {ys xs : List Value} (h : DlW w lo1 hi1 A1 n1 ys lo hi A n xs W) (hb : Below W.heap.size W W') : DlW w lo1 hi1 A1 n1 ys lo hi A n xs W' := ⟨h.1.new hb, h.2.1.new hb, below_trans h.2.2 hb (Nat.le_refl _)⟩
theorem DlW.ry {w W : World} {lo1 hi1 n1 lo hi n b off : Nat} {A1 : Option Addr} {ys xs : List Value} (h : DlW w lo1 hi1 A1 n1 ys lo hi (some ⟨b, off, none⟩) n xs W) (hn : 0 < n) {j : Nat} {u : Value} (hu : xs[j]? = some u) : W.cell? ⟨b, off + j, none⟩ = some u := by
  obtain ⟨b', off', e, _, _, hc⟩ := h.2.1.2 hn
  cases e
  exact hc j u hu
set_option maxHeartbeats 16000000 in

theorem walk (A0 : Option Addr) (n0 c0 : Nat) (w0 : n0 ≤ maxLen) (w : World) (m0 : BytesAt w w.heap.size A0 n0) (hT : Pow10 w) :
    Calls Tryd.prog 6 #[.slice A0 n0 c0] w fun e w' => e = .returned (.bool true) ∧ Below w.heap.size w w' := by
  have hn0 : n0 ≤ 9223372036854775807 := w0
  by_cases h : n0 ≤ 1048576
  · skip
    have g : decide ((1048576 : Int) < n0) = false := by simp; omega
    have M0 := Lib.hid m0
    have HT := Lib.hid hT
    clear m0 hT
    go_enter Tryd.func6, Tryd.ntmps6
    go_wp2_with fail
    refine (big_any n0 c0 A0 _ w0).mono ?_
    rintro e w1 ⟨rfl, rfl⟩
    rw [g]
    have HB := Lib.hid (Below.refl w.heap.size w)
    go_wp2_with fail
    refine Calls.mono (drawDe_any n0 c0 A0 _ (by omega) (bytes_below M0.out HB.out) HT.out) ?_
    rintro e w2 ⟨k, Al, cl, l, x, hk0, hk1, rfl, hl, hu, hx, hr, hb⟩
    have zz2 := hb.size
    replace HB := Lib.hid (below_trans HB.out hb (Nat.le_refl _))
    clear hb
    have hsz1 : w.heap.size ≤ w2.heap.size := HB.out.size
    obtain ⟨hi1, hh1⟩ : ∃ z, z = w2.heap.size := ⟨_, rfl⟩
    have HR := Lib.hid (show Rd w2 w.heap.size hi1 4 Al l.length (cLetter l) by rw [hh1]; exact hr)
    have hh1' : hi1 ≤ w2.heap.size := by omega
    clear hh1
    have HU := Lib.hid (show cLetterOk l from fun z hz => (hu z hz).1)
    have EZ := Lib.hid (cntTo_zero (l := l) fun z hz => (hu z hz).2.1)
    have EA := Lib.hid (cntTo_all (l := l) fun z hz => (hu z hz).2.2)
    have HX := Lib.hid hx.1
    have WK := Lib.hid (show (Lit.int .i64 k).wf = true from WalkArith.wf_i64 (by constructor <;> omega))
    have WK1 := Lib.hid (show (Lit.int .i64 (k + 1)).wf = true from WalkArith.wf_i64 (by constructor <;> omega))
    have EF := Lib.hid (forged_del k l x)
    have EGF := Lib.hid (fun (s : TLetter) (h : mGen k s = true) => gen_from h)
    have EGB := Lib.hid (fun (s : TLetter) (h : mGen k s = true) => gen_body h)
    have EGK := Lib.hid (fun (s : TLetter) (h : mGen k s = true) => gen_key h (by omega))
    have HPT := Lib.hid (fun (W : World) (hb : Below w.heap.size w W) => pow10_below HT.out hb)
    clear hr hu hx
    have KX := Lib.hid (show BoxAt (World.alloc w2 (.cells #[.int .i64 0, .int .i64 0, .int .i64 0, .int .i64 0] 62)) w2.heap.size 62 #[.int .i64 0, .int .i64 0, .int .i64 0, .int .i64 0] from by simpa using box_new w2 62 #[.int .i64 0, .int .i64 0, .int .i64 0, .int .i64 0])
    replace HR := Lib.hid (HR.out.alloc (.cells #[.int .i64 0, .int .i64 0, .int .i64 0, .int .i64 0] 62))
    replace HB := Lib.hid (HB.out.alloc (by have := HB.out.size; (try simp at this ⊢); omega) (.cells #[.int .i64 0, .int .i64 0, .int .i64 0, .int .i64 0] 62))
    obtain ⟨w3, hx⟩ : ∃ X, X = World.setRow (World.alloc w2 (.cells #[.int .i64 0, .int .i64 0, .int .i64 0, .int .i64 0] 62)) w2.heap.size #[.int .i64 x.f0, .int .i64 x.f1, .int .i64 x.f2, .int .i64 x.f3] := ⟨_, rfl⟩
    have HX3 := Lib.hid hx
    have OLD3 := KX
    replace KX := Lib.hid (show BoxAt w3 w2.heap.size 62 #[.int .i64 x.f0, .int .i64 x.f1, .int .i64 x.f2, .int .i64 x.f3] by rw [hx]; exact box_row KX.out)
    replace HR := Lib.hid (show Rd w3 w.heap.size hi1 4 Al l.length (cLetter l) by rw [hx]; exact HR.out.keep fun b _ hb1 _ => setRow_other _ _ b _ (by omega))
    replace HB := Lib.hid (show Below w.heap.size w w3 by rw [hx]; exact below_setRow HB.out (by omega) _)
    clear hx
    have lKX : w2.heap.size < w3.heap.size := KX.out.lt
    have kKX0 := KX.out.at_ (j := 0) rfl
    have kKX1 := KX.out.at_ (j := 1) rfl
    have kKX2 := KX.out.at_ (j := 2) rfl
    have kKX3 := KX.out.at_ (j := 3) rfl
    go_wp2_with (refine wpList_store_row rfl 62 _ _ rfl w2.heap.size #[.int .i64 x.f0, .int .i64 x.f1, .int .i64 x.f2, .int .i64 x.f3] rfl rfl 62 _ OLD3.out (by kernel_rfl) (by kernel_rfl) (by kernel_rfl) ?_; rw [← HX3.out]; clear HX3 OLD3)
    clear kKX0 kKX1 kKX2 kKX3
    refine Calls.mono (impl_Deliver k l Al l.length cl _ _ x _ (HPT.out _ HB.out) WK.out (by omega) HR.out HU HX) ?_
    rintro e w4 ⟨Ay, cy, rfl, hF, hb⟩
    have zz4 := hb.size
    replace KX := Lib.hid (KX.out.new hb)
    replace HR := Lib.hid (HR.out.new hb)
    replace HB := Lib.hid (below_trans HB.out hb (Nat.le_refl _))
    clear hb
    have lKX : w2.heap.size < w4.heap.size := KX.out.lt
    have HY := Lib.hid hF.rd
    clear hF
    obtain ⟨ok, hok⟩ : ∃ v, mDelOk k l x = v := ⟨_, rfl⟩
    have HOK := Lib.hid hok
    clear hok
    have HYU := Lib.hid (show cLetterOk (mDel k l x) from fun z hz => by
      unfold mDel at hz
      split at hz
      · rcases List.mem_append.1 hz with h | h
        · exact HU.out z h
        · simp only [List.mem_singleton] at h; subst h; exact HX.out
      · exact HU.out z hz)
    have hyl := mDel_len k l x
    obtain ⟨m, hm⟩ : ∃ m, m = mDel k l x := ⟨_, rfl⟩
    have HM := Lib.hid hm
    rw [← hm] at HY HYU EF hyl ⊢
    clear hm
    obtain ⟨loy, hiy, hh2, hY⟩ : ∃ lo hi, hi ≤ w4.heap.size ∧ Rd w4 lo hi 4 Ay m.length (cLetter m) := ⟨_, _, Nat.le_refl _, HY.out⟩
    replace HY := Lib.hid hY
    clear hY
    go_upto_region 5 with fail
    try simp only [Act.put]
    go_cut [6, 51] (fun s6 s51 wx => s6 = .slice Ay m.length cy ∧ s51 = .bool false ∧ Hid (BoxAt wx w2.heap.size 62 #[.int .i64 x.f0, .int .i64 x.f1, .int .i64 x.f2, .int .i64 x.f3]) ∧ Hid (Rd wx w.heap.size hi1 4 Al l.length (cLetter l)) ∧ Hid (Rd wx loy hiy 4 Ay m.length (cLetter m)) ∧ Hid (Below w.heap.size w wx))
    case first =>
      cases ok with
      | false =>
        have hml : m = l := by rw [HM.out, mDel_no HOK.out]
        subst hml
        refine wp_region_held_drew (S := fun w' => BoxAt w' w2.heap.size 62 #[.int .i64 x.f0, .int .i64 x.f1, .int .i64 x.f2, .int .i64 x.f3] ∧ DlW w w.heap.size hi1 Al m.length (cLetter m) loy hiy Ay m.length (cLetter m) w') (by kernel_rfl) ?_ (fun hHeld => ?_)
        · exact ⟨KX.out.drw, HR.out.drw, HY.out.drw, HB.out.drew⟩
        refine wpAnyH_take (i := 0) (oi := ⟨some 24, _, _, _, _, _⟩) (v := ?_) rfl (by kernel_rfl) (by kernel_rfl) (by kernel_rfl) (fun _ _ _ h => h) (Or.inl ⟨by kernel_rfl, ?_⟩) hHeld ?_
        rotate_left
        focus (intro W hS; skip; clear hS; first | (go_simp; done) | (go_simp; with_reducible rfl))
        try simp only [Act.put, List.setIfInBounds_toArray, List.set_cons_zero, List.set_cons_succ]
        refine wpAnyH_take (i := 1) (oi := ⟨some 25, _, _, _, _, _⟩) (v := ?_) rfl (by kernel_rfl) (by kernel_rfl) (by kernel_rfl) (fun _ _ _ h => h) (Or.inl ⟨by kernel_rfl, ?_⟩) hHeld ?_
        rotate_left
        focus (intro W hS; skip; clear hS; first | (go_simp; done) | (go_simp; with_reducible rfl))
        try simp only [Act.put, List.setIfInBounds_toArray, List.set_cons_zero, List.set_cons_succ]
        refine wpAnyH_take (i := 2) (oi := ⟨some 26, _, _, _, _, _⟩) (v := ?_) rfl (by kernel_rfl) (by kernel_rfl) (by kernel_rfl) (fun _ _ _ h => h) (Or.inl ⟨by kernel_rfl, ?_⟩) hHeld ?_
        rotate_left
        focus (intro W hS; skip; clear hS; first | (go_simp; done) | (go_simp; with_reducible rfl))
        try simp only [Act.put, List.setIfInBounds_toArray, List.set_cons_zero, List.set_cons_succ]
        refine wpAnyH_take (i := 3) (oi := ⟨some 27, _, _, _, _, _⟩) (v := ?_) rfl (by kernel_rfl) (by kernel_rfl) (by kernel_rfl) (fun _ _ _ h => h) (Or.inl ⟨by kernel_rfl, ?_⟩) hHeld ?_
        rotate_left
        focus (intro W hS; skip; clear hS; first | (go_simp; done) | (go_simp; with_reducible rfl))
        try simp only [Act.put, List.setIfInBounds_toArray, List.set_cons_zero, List.set_cons_succ]
        refine wpAnyH_take (i := 4) (oi := ⟨some 28, _, _, _, _, _⟩) (v := ?_) rfl (by kernel_rfl) (by kernel_rfl) (by kernel_rfl) (fun _ _ _ h => h) (Or.inl ⟨by kernel_rfl, ?_⟩) hHeld ?_
        rotate_left
        focus (intro W hS; skip; clear hS; first | (go_simp; done) | (go_simp; with_reducible rfl))
        try simp only [Act.put, List.setIfInBounds_toArray, List.set_cons_zero, List.set_cons_succ]
        refine wpAnyH_take (i := 5) (oi := ⟨some 29, _, _, _, _, _⟩) (v := ?_) rfl (by kernel_rfl) (by kernel_rfl) (by kernel_rfl) (fun _ _ _ h => h) (Or.inl ⟨by kernel_rfl, ?_⟩) hHeld ?_
        rotate_left
        focus (intro W hS; skip; clear hS; first | (go_simp; done) | (go_simp; with_reducible rfl))
        try simp only [Act.put, List.setIfInBounds_toArray, List.set_cons_zero, List.set_cons_succ]
        refine wpAnyH_take (i := 6) (oi := ⟨some 30, _, _, _, _, _⟩) (v := undef) rfl (by kernel_rfl) (by kernel_rfl) (by kernel_rfl) (fun _ _ _ h => h) (Or.inr ⟨by kernel_rfl, rfl⟩) hHeld ?_
        try simp only [Act.put, List.setIfInBounds_toArray, List.set_cons_zero, List.set_cons_succ]
        refine wpAnyH_take (i := 7) (oi := ⟨some 31, _, _, _, _, _⟩) (v := undef) rfl (by kernel_rfl) (by kernel_rfl) (by kernel_rfl) (fun _ _ _ h => h) (Or.inr ⟨by kernel_rfl, rfl⟩) hHeld ?_
        try simp only [Act.put, List.setIfInBounds_toArray, List.set_cons_zero, List.set_cons_succ]
        refine wpAnyH_take (i := 8) (oi := ⟨some 32, _, _, _, _, _⟩) (v := undef) rfl (by kernel_rfl) (by kernel_rfl) (by kernel_rfl) (fun _ _ _ h => h) (Or.inr ⟨by kernel_rfl, rfl⟩) hHeld ?_
        try simp only [Act.put, List.setIfInBounds_toArray, List.set_cons_zero, List.set_cons_succ]
        refine wpAnyH_take (i := 9) (oi := ⟨some 33, _, _, _, _, _⟩) (v := undef) rfl (by kernel_rfl) (by kernel_rfl) (by kernel_rfl) (fun _ _ _ h => h) (Or.inr ⟨by kernel_rfl, rfl⟩) hHeld ?_
        try simp only [Act.put, List.setIfInBounds_toArray, List.set_cons_zero, List.set_cons_succ]
        refine wpAnyH_take (i := 10) (oi := ⟨some 34, _, _, _, _, _⟩) (v := undef) rfl (by kernel_rfl) (by kernel_rfl) (by kernel_rfl) (fun _ _ _ h => h) (Or.inr ⟨by kernel_rfl, rfl⟩) hHeld ?_
        try simp only [Act.put, List.setIfInBounds_toArray, List.set_cons_zero, List.set_cons_succ]
        refine wpAnyH_take (i := 11) (oi := ⟨some 35, _, _, _, _, _⟩) (v := undef) rfl (by kernel_rfl) (by kernel_rfl) (by kernel_rfl) (fun _ _ _ h => h) (Or.inr ⟨by kernel_rfl, rfl⟩) hHeld ?_
        try simp only [Act.put, List.setIfInBounds_toArray, List.set_cons_zero, List.set_cons_succ]
        refine wpAnyH_take (i := 12) (oi := ⟨some 36, _, _, _, _, _⟩) (v := undef) rfl (by kernel_rfl) (by kernel_rfl) (by kernel_rfl) (fun _ _ _ h => h) (Or.inr ⟨by kernel_rfl, rfl⟩) hHeld ?_
        try simp only [Act.put, List.setIfInBounds_toArray, List.set_cons_zero, List.set_cons_succ]
        refine wpAnyH_take (i := 13) (oi := ⟨some 37, _, _, _, _, _⟩) (v := undef) rfl (by kernel_rfl) (by kernel_rfl) (by kernel_rfl) (fun _ _ _ h => h) (Or.inr ⟨by kernel_rfl, rfl⟩) hHeld ?_
        try simp only [Act.put, List.setIfInBounds_toArray, List.set_cons_zero, List.set_cons_succ]
        refine wpAnyH_take (i := 14) (oi := ⟨some 38, _, _, _, _, _⟩) (v := undef) rfl (by kernel_rfl) (by kernel_rfl) (by kernel_rfl) (fun _ _ _ h => h) (Or.inr ⟨by kernel_rfl, rfl⟩) hHeld ?_
        try simp only [Act.put, List.setIfInBounds_toArray, List.set_cons_zero, List.set_cons_succ]
        refine wpAnyH_take (i := 15) (oi := ⟨some 39, _, _, _, _, _⟩) (v := undef) rfl (by kernel_rfl) (by kernel_rfl) (by kernel_rfl) (fun _ _ _ h => h) (Or.inr ⟨by kernel_rfl, rfl⟩) hHeld ?_
        try simp only [Act.put, List.setIfInBounds_toArray, List.set_cons_zero, List.set_cons_succ]
        refine wpAnyH_take (i := 16) (oi := ⟨some 40, _, _, _, _, _⟩) (v := undef) rfl (by kernel_rfl) (by kernel_rfl) (by kernel_rfl) (fun _ _ _ h => h) (Or.inr ⟨by kernel_rfl, rfl⟩) hHeld ?_
        try simp only [Act.put, List.setIfInBounds_toArray, List.set_cons_zero, List.set_cons_succ]
        refine wpAnyH_take (i := 17) (oi := ⟨some 41, _, _, _, _, _⟩) (v := undef) rfl (by kernel_rfl) (by kernel_rfl) (by kernel_rfl) (fun _ _ _ h => h) (Or.inr ⟨by kernel_rfl, rfl⟩) hHeld ?_
        try simp only [Act.put, List.setIfInBounds_toArray, List.set_cons_zero, List.set_cons_succ]
        refine wpAnyH_take (i := 18) (oi := ⟨some 42, _, _, _, _, _⟩) (v := undef) rfl (by kernel_rfl) (by kernel_rfl) (by kernel_rfl) (fun _ _ _ h => h) (Or.inr ⟨by kernel_rfl, rfl⟩) hHeld ?_
        try simp only [Act.put, List.setIfInBounds_toArray, List.set_cons_zero, List.set_cons_succ]
        refine wpAnyH_take (i := 19) (oi := ⟨some 43, _, _, _, _, _⟩) (v := undef) rfl (by kernel_rfl) (by kernel_rfl) (by kernel_rfl) (fun _ _ _ h => h) (Or.inr ⟨by kernel_rfl, rfl⟩) hHeld ?_
        try simp only [Act.put, List.setIfInBounds_toArray, List.set_cons_zero, List.set_cons_succ]
        refine wpAnyH_take (i := 20) (oi := ⟨some 44, _, _, _, _, _⟩) (v := undef) rfl (by kernel_rfl) (by kernel_rfl) (by kernel_rfl) (fun _ _ _ h => h) (Or.inr ⟨by kernel_rfl, rfl⟩) hHeld ?_
        try simp only [Act.put, List.setIfInBounds_toArray, List.set_cons_zero, List.set_cons_succ]
        refine wpAnyH_take (i := 21) (oi := ⟨some 45, _, _, _, _, _⟩) (v := undef) rfl (by kernel_rfl) (by kernel_rfl) (by kernel_rfl) (fun _ _ _ h => h) (Or.inr ⟨by kernel_rfl, rfl⟩) hHeld ?_
        try simp only [Act.put, List.setIfInBounds_toArray, List.set_cons_zero, List.set_cons_succ]
        refine wpAnyH_take (i := 22) (oi := ⟨some 46, _, _, _, _, _⟩) (v := undef) rfl (by kernel_rfl) (by kernel_rfl) (by kernel_rfl) (fun _ _ _ h => h) (Or.inr ⟨by kernel_rfl, rfl⟩) hHeld ?_
        try simp only [Act.put, List.setIfInBounds_toArray, List.set_cons_zero, List.set_cons_succ]
        refine wpAnyH_take (i := 23) (oi := ⟨some 47, _, _, _, _, _⟩) (v := undef) rfl (by kernel_rfl) (by kernel_rfl) (by kernel_rfl) (fun _ _ _ h => h) (Or.inr ⟨by kernel_rfl, rfl⟩) hHeld ?_
        try simp only [Act.put, List.setIfInBounds_toArray, List.set_cons_zero, List.set_cons_succ]
        refine wpAnyH_take (i := 24) (oi := ⟨some 48, _, _, _, _, _⟩) (v := undef) rfl (by kernel_rfl) (by kernel_rfl) (by kernel_rfl) (fun _ _ _ h => h) (Or.inr ⟨by kernel_rfl, rfl⟩) hHeld ?_
        try simp only [Act.put, List.setIfInBounds_toArray, List.set_cons_zero, List.set_cons_succ]
        refine wpAnyH_take (i := 25) (oi := ⟨some 49, _, _, _, _, _⟩) (v := undef) rfl (by kernel_rfl) (by kernel_rfl) (by kernel_rfl) (fun _ _ _ h => h) (Or.inr ⟨by kernel_rfl, rfl⟩) hHeld ?_
        try simp only [Act.put, List.setIfInBounds_toArray, List.set_cons_zero, List.set_cons_succ]
        refine wpAnyH_take (i := 26) (oi := ⟨some 50, _, _, _, _, _⟩) (v := undef) rfl (by kernel_rfl) (by kernel_rfl) (by kernel_rfl) (fun _ _ _ h => h) (Or.inr ⟨by kernel_rfl, rfl⟩) hHeld ?_
        try simp only [Act.put, List.setIfInBounds_toArray, List.set_cons_zero, List.set_cons_succ]
        refine wpAnyH_take (i := 27) (oi := ⟨some 51, _, _, _, _, _⟩) (v := ?_) rfl (by kernel_rfl) (by kernel_rfl) (by kernel_rfl) (fun _ _ _ h => h) (Or.inl ⟨by kernel_rfl, ?_⟩) hHeld ?_
        rotate_left
        focus (intro W hS; skip; clear hS; first | (go_simp; done) | (go_simp; with_reducible rfl))
        try simp only [Act.put, List.setIfInBounds_toArray, List.set_cons_zero, List.set_cons_succ]
        refine wpAnyH_done (by kernel_rfl) ?_ _
        have HH := hHeld
        clear hHeld
        have KX := Lib.hid HH.1
        have HR := Lib.hid HH.2.1
        have HY := Lib.hid (show Rd _ loy hiy 4 Ay m.length (cLetter m) from HH.2.2.1)
        have HB := Lib.hid HH.2.2.2
        clear HH
        go_wp2_with fail
        go_meet
        case rel => exact ⟨by first | rfl | rw [hml], by first | rfl | simp, KX, HR, HY, HB⟩
      | true =>
        have hme : m = l ++ [x] := by rw [HM.out, mDel_yes HOK.out]
        have hml : m.length = l.length + 1 := by rw [hme]; simp
        have HG1 := Lib.hid (show mGen k x = true by have := HOK.out; unfold mDelOk at this; rw [Bool.and_eq_true] at this; exact this.1)
        have hxl : m[l.length]? = some x := by rw [hme]; simp
        rw [hml] at HY ⊢
        obtain ⟨b, off, x', rfl, _, _, _, _⟩ := rd_elem TLetter.len HY.out hml (show l.length < l.length + 1 by omega)
        have hn1 : 0 < l.length + 1 := by omega
        have hlt1 : (l.length : Int) < (l.length : Int) + 1 := by omega
        have hlne : ¬ ((l.length : Int) + 1 = (l.length : Int)) := by omega
        have hlnb : (((l.length : Int) + 1) != (l.length : Int)) = true := bne_iff_ne.2 hlne
        have hleb : (((l.length : Int) + 1) == (l.length : Int)) = false := beq_eq_false_iff_ne.2 hlne
        have hw1 : IntKind.i64.wrap ((l.length : Int) + 1) = (l.length : Int) + 1 := IntWalk.i64_in _ (by omega)
        have hx0 : (cLetter m)[l.length * 4]? = some (.int .i64 x.f0) := flat_get TLetter.len m l.length 0 x _ hxl rfl
        have hx1 : (cLetter m)[l.length * 4 + 1]? = some (.int .i64 x.f1) := flat_get TLetter.len m l.length 1 x _ hxl rfl
        have hx2 : (cLetter m)[l.length * 4 + 2]? = some (.int .i64 x.f2) := flat_get TLetter.len m l.length 2 x _ hxl rfl
        have hx3 : (cLetter m)[l.length * 4 + 3]? = some (.int .i64 x.f3) := flat_get TLetter.len m l.length 3 x _ hxl rfl
        have hq : ∀ W : World, (binOp .neq 62 (.agg #[.int .i64 x.f0, .int .i64 x.f1, .int .i64 x.f2, .int .i64 x.f3]) (.agg #[.int .i64 x.f0, .int .i64 x.f1, .int .i64 x.f2, .int .i64 x.f3])).run Tryd.prog W = .ok (.bool false) W := fun W => by
          have := neq_Letter x x W
          simpa using this
        clear hxl hme
        refine wp_region_held_drew (S := fun w' => BoxAt w' w2.heap.size 62 #[.int .i64 x.f0, .int .i64 x.f1, .int .i64 x.f2, .int .i64 x.f3] ∧ DlW w w.heap.size hi1 Al l.length (cLetter l) loy hiy (some ⟨b, off, none⟩) (l.length + 1) (cLetter m) w') (by kernel_rfl) ?_ (fun hHeld => ?_)
        · exact ⟨KX.out.drw, HR.out.drw, HY.out.drw, HB.out.drew⟩
        refine wpAnyH_take (i := 0) (oi := ⟨some 24, _, _, _, _, _⟩) (v := ?_) rfl (by kernel_rfl) (by kernel_rfl) (by kernel_rfl) (fun _ _ _ h => h) (Or.inl ⟨by kernel_rfl, ?_⟩) hHeld ?_
        rotate_left
        focus (intro W hS; skip; clear hS; first | (go_simp; done) | (go_simp; with_reducible rfl))
        try simp only [Act.put, List.setIfInBounds_toArray, List.set_cons_zero, List.set_cons_succ]
        refine wpAnyH_take (i := 1) (oi := ⟨some 25, _, _, _, _, _⟩) (v := ?_) rfl (by kernel_rfl) (by kernel_rfl) (by kernel_rfl) (fun _ _ _ h => h) (Or.inl ⟨by kernel_rfl, ?_⟩) hHeld ?_
        rotate_left
        focus (intro W hS; skip; clear hS; first | (go_simp; done) | (go_simp; with_reducible rfl))
        try simp only [Act.put, List.setIfInBounds_toArray, List.set_cons_zero, List.set_cons_succ]
        refine wpAnyH_take (i := 2) (oi := ⟨some 26, _, _, _, _, _⟩) (v := ?_) rfl (by kernel_rfl) (by kernel_rfl) (by kernel_rfl) (fun _ _ _ h => h) (Or.inl ⟨by kernel_rfl, ?_⟩) hHeld ?_
        rotate_left
        focus (intro W hS; skip; clear hS; first | (go_simp; done) | (go_simp; with_reducible rfl))
        try simp only [Act.put, List.setIfInBounds_toArray, List.set_cons_zero, List.set_cons_succ]
        refine wpAnyH_take (i := 3) (oi := ⟨some 27, _, _, _, _, _⟩) (v := ?_) rfl (by kernel_rfl) (by kernel_rfl) (by kernel_rfl) (fun _ _ _ h => h) (Or.inl ⟨by kernel_rfl, ?_⟩) hHeld ?_
        rotate_left
        focus (intro W hS; skip; clear hS; first | (go_simp; done) | (go_simp; with_reducible rfl))
        try simp only [Act.put, List.setIfInBounds_toArray, List.set_cons_zero, List.set_cons_succ]
        refine wpAnyH_take (i := 4) (oi := ⟨some 28, _, _, _, _, _⟩) (v := ?_) rfl (by kernel_rfl) (by kernel_rfl) (by kernel_rfl) (fun _ _ _ h => h) (Or.inl ⟨by kernel_rfl, ?_⟩) hHeld ?_
        rotate_left
        focus (intro W hS; skip; clear hS; first | (go_simp; done) | (go_simp; with_reducible rfl))
        try simp only [Act.put, List.setIfInBounds_toArray, List.set_cons_zero, List.set_cons_succ]
        refine wpAnyH_take (i := 5) (oi := ⟨some 29, _, _, _, _, _⟩) (v := ?_) rfl (by kernel_rfl) (by kernel_rfl) (by kernel_rfl) (fun _ _ _ h => h) (Or.inl ⟨by kernel_rfl, ?_⟩) hHeld ?_
        rotate_left
        focus (intro W hS; skip; clear hS; first | (go_simp; done) | (go_simp; with_reducible rfl))
        try simp only [Act.put, List.setIfInBounds_toArray, List.set_cons_zero, List.set_cons_succ]
        refine wpAnyH_take (i := 6) (oi := ⟨some 30, _, _, _, _, _⟩) (v := ?_) rfl (by kernel_rfl) (by kernel_rfl) (by kernel_rfl) (fun _ _ _ h => h) (Or.inl ⟨by kernel_rfl, ?_⟩) hHeld ?_
        rotate_left
        focus (intro W hS; skip; clear hS; first | (go_simp; done) | (go_simp; with_reducible rfl))
        try simp only [Act.put, List.setIfInBounds_toArray, List.set_cons_zero, List.set_cons_succ]
        refine wpAnyH_take (i := 7) (oi := ⟨some 31, _, _, _, _, _⟩) (v := ?_) rfl (by kernel_rfl) (by kernel_rfl) (by kernel_rfl) (fun _ _ _ h => h) (Or.inl ⟨by kernel_rfl, ?_⟩) hHeld ?_
        rotate_left
        focus (intro W hS; skip; clear hS; first | (go_simp; done) | (go_simp; with_reducible rfl))
        try simp only [Act.put, List.setIfInBounds_toArray, List.set_cons_zero, List.set_cons_succ]
        refine wpAnyH_take (i := 8) (oi := ⟨some 32, _, _, _, _, _⟩) (v := ?_) rfl (by kernel_rfl) (by kernel_rfl) (by kernel_rfl) (fun _ _ _ h => h) (Or.inl ⟨by kernel_rfl, ?_⟩) hHeld ?_
        rotate_left
        focus (intro W hS; skip; clear hS; first | (go_simp; done) | (go_simp; with_reducible rfl))
        try simp only [Act.put, List.setIfInBounds_toArray, List.set_cons_zero, List.set_cons_succ]
        refine wpAnyH_take (i := 9) (oi := ⟨some 33, _, _, _, _, _⟩) (v := ?_) rfl (by kernel_rfl) (by kernel_rfl) (by kernel_rfl) (fun _ _ _ h => h) (Or.inl ⟨by kernel_rfl, ?_⟩) hHeld ?_
        rotate_left
        focus (intro W hS; skip; clear hS; first | (go_simp; done) | (go_simp; with_reducible rfl))
        try simp only [Act.put, List.setIfInBounds_toArray, List.set_cons_zero, List.set_cons_succ]
        refine wpAnyH_take (i := 10) (oi := ⟨some 34, _, _, _, _, _⟩) (v := ?_) rfl (by kernel_rfl) (by kernel_rfl) (by kernel_rfl) (fun _ _ _ h => h) (Or.inl ⟨by kernel_rfl, ?_⟩) hHeld ?_
        rotate_left
        focus (intro W hS; skip; clear hS; first | (go_simp; done) | (go_simp; with_reducible rfl))
        try simp only [Act.put, List.setIfInBounds_toArray, List.set_cons_zero, List.set_cons_succ]
        refine wpAnyH_take (i := 11) (oi := ⟨some 35, _, _, _, _, _⟩) (v := ?_) rfl (by kernel_rfl) (by kernel_rfl) (by kernel_rfl) (fun _ _ _ h => h) (Or.inl ⟨by kernel_rfl, ?_⟩) hHeld ?_
        rotate_left
        focus (intro W hS; skip; clear hS; first | (go_simp; done) | (go_simp; with_reducible rfl))
        try simp only [Act.put, List.setIfInBounds_toArray, List.set_cons_zero, List.set_cons_succ]
        refine wpAnyH_take (i := 12) (oi := ⟨some 36, _, _, _, _, _⟩) (v := ?_) rfl (by kernel_rfl) (by kernel_rfl) (by kernel_rfl) (fun _ _ _ h => h) (Or.inl ⟨by kernel_rfl, ?_⟩) hHeld ?_
        rotate_left
        focus (intro W hS; skip; clear hS; first | (go_simp; done) | (go_simp; with_reducible rfl))
        try simp only [Act.put, List.setIfInBounds_toArray, List.set_cons_zero, List.set_cons_succ]
        refine wpAnyH_take (i := 13) (oi := ⟨some 37, _, _, _, _, _⟩) (v := ?_) rfl (by kernel_rfl) (by kernel_rfl) (by kernel_rfl) (fun _ _ _ h => h) (Or.inl ⟨by kernel_rfl, ?_⟩) hHeld ?_
        rotate_left
        focus (intro W hS; skip; clear hS; first | (go_simp; done) | (go_simp; with_reducible rfl))
        try simp only [Act.put, List.setIfInBounds_toArray, List.set_cons_zero, List.set_cons_succ]
        refine wpAnyH_take (i := 14) (oi := ⟨some 38, _, _, _, _, _⟩) (v := ?_) rfl (by kernel_rfl) (by kernel_rfl) (by kernel_rfl) (fun _ _ _ h => h) (Or.inl ⟨by kernel_rfl, ?_⟩) hHeld ?_
        rotate_left
        focus (intro W hS; have c0_0 := (hS.1).at_ (j := 0) rfl; have c0_1 := (hS.1).at_ (j := 1) rfl; have c0_2 := (hS.1).at_ (j := 2) rfl; have c0_3 := (hS.1).at_ (j := 3) rfl; have y0 := (hS.2).ry hn1 hx0; have y1 : W.cell? ⟨b, off + l.length * 4 + 1, none⟩ = some (.int .i64 x.f1) := (by have := (hS.2).ry hn1 hx1; rwa [← Nat.add_assoc] at this); have y2 : W.cell? ⟨b, off + l.length * 4 + 2, none⟩ = some (.int .i64 x.f2) := (by have := (hS.2).ry hn1 hx2; rwa [← Nat.add_assoc] at this); have y3 : W.cell? ⟨b, off + l.length * 4 + 3, none⟩ = some (.int .i64 x.f3) := (by have := (hS.2).ry hn1 hx3; rwa [← Nat.add_assoc] at this); clear hS; first | (go_simp; done) | (go_simp; with_reducible rfl))
        try simp only [Act.put, List.setIfInBounds_toArray, List.set_cons_zero, List.set_cons_succ]
        refine wpAnyH_ready (rs := [15]) (by kernel_rfl) (by simp) ?_
        refine AllReadyH.cons (o := ⟨some 39, _, _, _, _, _⟩) rfl (fun K hK => ?_) AllReadyH.nil
        go_simp
        refine Calls.mono (ig_eq k x _ HG1.out _ (HPT.out _ hHeld.2.2.2) WK.out HX) ?_
        rintro e x1 ⟨rfl, hb1⟩
        refine hK.out _ _ ⟨hHeld.1.new hb1, DlW.new hHeld.2 hb1⟩ (fun hHeld' => ?_)
        clear hK K hHeld hb1
        have hHeld := hHeld'
        clear hHeld'
        try simp only [Act.put, List.setIfInBounds_toArray, List.set_cons_zero, List.set_cons_succ]
        refine wpAnyH_take (i := 16) (oi := ⟨some 40, _, _, _, _, _⟩) (v := ?_) rfl (by kernel_rfl) (by kernel_rfl) (by kernel_rfl) (fun _ _ _ h => h) (Or.inl ⟨by kernel_rfl, ?_⟩) hHeld ?_
        rotate_left
        focus (intro W hS; skip; clear hS; first | (go_simp; done) | (go_simp; with_reducible rfl))
        try simp only [Act.put, List.setIfInBounds_toArray, List.set_cons_zero, List.set_cons_succ]
        refine wpAnyH_take (i := 17) (oi := ⟨some 41, _, _, _, _, _⟩) (v := ?_) rfl (by kernel_rfl) (by kernel_rfl) (by kernel_rfl) (fun _ _ _ h => h) (Or.inl ⟨by kernel_rfl, ?_⟩) hHeld ?_
        rotate_left
        focus (intro W hS; skip; clear hS; first | (go_simp; done) | (go_simp; with_reducible rfl))
        try simp only [Act.put, List.setIfInBounds_toArray, List.set_cons_zero, List.set_cons_succ]
        refine wpAnyH_take (i := 18) (oi := ⟨some 42, _, _, _, _, _⟩) (v := ?_) rfl (by kernel_rfl) (by kernel_rfl) (by kernel_rfl) (fun _ _ _ h => h) (Or.inl ⟨by kernel_rfl, ?_⟩) hHeld ?_
        rotate_left
        focus (intro W hS; skip; clear hS; first | (go_simp; done) | (go_simp; with_reducible rfl))
        try simp only [Act.put, List.setIfInBounds_toArray, List.set_cons_zero, List.set_cons_succ]
        refine wpAnyH_take (i := 19) (oi := ⟨some 43, _, _, _, _, _⟩) (v := ?_) rfl (by kernel_rfl) (by kernel_rfl) (by kernel_rfl) (fun _ _ _ h => h) (Or.inl ⟨by kernel_rfl, ?_⟩) hHeld ?_
        rotate_left
        focus (intro W hS; skip; clear hS; first | (go_simp; done) | (go_simp; with_reducible rfl))
        try simp only [Act.put, List.setIfInBounds_toArray, List.set_cons_zero, List.set_cons_succ]
        refine wpAnyH_take (i := 20) (oi := ⟨some 44, _, _, _, _, _⟩) (v := ?_) rfl (by kernel_rfl) (by kernel_rfl) (by kernel_rfl) (fun _ _ _ h => h) (Or.inl ⟨by kernel_rfl, ?_⟩) hHeld ?_
        rotate_left
        focus (intro W hS; skip; clear hS; first | (go_simp; done) | (go_simp; with_reducible rfl))
        try simp only [Act.put, List.setIfInBounds_toArray, List.set_cons_zero, List.set_cons_succ]
        refine wpAnyH_take (i := 21) (oi := ⟨some 45, _, _, _, _, _⟩) (v := ?_) rfl (by kernel_rfl) (by kernel_rfl) (by kernel_rfl) (fun _ _ _ h => h) (Or.inl ⟨by kernel_rfl, ?_⟩) hHeld ?_
        rotate_left
        focus (intro W hS; skip; clear hS; first | (go_simp; done) | (go_simp; with_reducible rfl))
        try simp only [Act.put, List.setIfInBounds_toArray, List.set_cons_zero, List.set_cons_succ]
        refine wpAnyH_take (i := 22) (oi := ⟨some 46, _, _, _, _, _⟩) (v := ?_) rfl (by kernel_rfl) (by kernel_rfl) (by kernel_rfl) (fun _ _ _ h => h) (Or.inl ⟨by kernel_rfl, ?_⟩) hHeld ?_
        rotate_left
        focus (intro W hS; skip; clear hS; first | (go_simp; done) | (go_simp; with_reducible rfl))
        try simp only [Act.put, List.setIfInBounds_toArray, List.set_cons_zero, List.set_cons_succ]
        refine wpAnyH_take (i := 23) (oi := ⟨some 47, _, _, _, _, _⟩) (v := ?_) rfl (by kernel_rfl) (by kernel_rfl) (by kernel_rfl) (fun _ _ _ h => h) (Or.inl ⟨by kernel_rfl, ?_⟩) hHeld ?_
        rotate_left
        focus (intro W hS; have c0_0 := (hS.1).at_ (j := 0) rfl; have c0_1 := (hS.1).at_ (j := 1) rfl; have c0_2 := (hS.1).at_ (j := 2) rfl; have c0_3 := (hS.1).at_ (j := 3) rfl; have y0 := (hS.2).ry hn1 hx0; have y1 : W.cell? ⟨b, off + l.length * 4 + 1, none⟩ = some (.int .i64 x.f1) := (by have := (hS.2).ry hn1 hx1; rwa [← Nat.add_assoc] at this); have y2 : W.cell? ⟨b, off + l.length * 4 + 2, none⟩ = some (.int .i64 x.f2) := (by have := (hS.2).ry hn1 hx2; rwa [← Nat.add_assoc] at this); have y3 : W.cell? ⟨b, off + l.length * 4 + 3, none⟩ = some (.int .i64 x.f3) := (by have := (hS.2).ry hn1 hx3; rwa [← Nat.add_assoc] at this); clear hS; first | (go_simp; done) | (go_simp; with_reducible rfl))
        try simp only [Act.put, List.setIfInBounds_toArray, List.set_cons_zero, List.set_cons_succ]
        refine wpAnyH_take (i := 24) (oi := ⟨some 48, _, _, _, _, _⟩) (v := ?_) rfl (by kernel_rfl) (by kernel_rfl) (by kernel_rfl) (fun _ _ _ h => h) (Or.inl ⟨by kernel_rfl, ?_⟩) hHeld ?_
        rotate_left
        focus (intro W hS; have c0_0 := (hS.1).at_ (j := 0) rfl; have c0_1 := (hS.1).at_ (j := 1) rfl; have c0_2 := (hS.1).at_ (j := 2) rfl; have c0_3 := (hS.1).at_ (j := 3) rfl; have y0 := (hS.2).ry hn1 hx0; have y1 : W.cell? ⟨b, off + l.length * 4 + 1, none⟩ = some (.int .i64 x.f1) := (by have := (hS.2).ry hn1 hx1; rwa [← Nat.add_assoc] at this); have y2 : W.cell? ⟨b, off + l.length * 4 + 2, none⟩ = some (.int .i64 x.f2) := (by have := (hS.2).ry hn1 hx2; rwa [← Nat.add_assoc] at this); have y3 : W.cell? ⟨b, off + l.length * 4 + 3, none⟩ = some (.int .i64 x.f3) := (by have := (hS.2).ry hn1 hx3; rwa [← Nat.add_assoc] at this); clear hS; first | (go_simp; done) | (go_simp; with_reducible rfl))
        try simp only [Act.put, List.setIfInBounds_toArray, List.set_cons_zero, List.set_cons_succ]
        refine wpAnyH_take (i := 25) (oi := ⟨some 49, _, _, _, _, _⟩) (v := ?_) rfl (by kernel_rfl) (by kernel_rfl) (by kernel_rfl) (fun _ _ _ h => h) (Or.inl ⟨by kernel_rfl, ?_⟩) hHeld ?_
        rotate_left
        focus (intro W hS; skip; clear hS; first | (go_simp; done) | (go_simp; with_reducible rfl))
        try simp only [Act.put, List.setIfInBounds_toArray, List.set_cons_zero, List.set_cons_succ]
        refine wpAnyH_take (i := 26) (oi := ⟨some 50, _, _, _, _, _⟩) (v := ?_) rfl (by kernel_rfl) (by kernel_rfl) (by kernel_rfl) (fun _ _ _ h => h) (Or.inl ⟨by kernel_rfl, ?_⟩) hHeld ?_
        rotate_left
        focus (intro W hS; skip; clear hS; first | (go_simp; done) | (go_simp; with_reducible rfl))
        try simp only [Act.put, List.setIfInBounds_toArray, List.set_cons_zero, List.set_cons_succ]
        refine wpAnyH_take (i := 27) (oi := ⟨some 51, _, _, _, _, _⟩) (v := ?_) rfl (by kernel_rfl) (by kernel_rfl) (by kernel_rfl) (fun _ _ _ h => h) (Or.inl ⟨by kernel_rfl, ?_⟩) hHeld ?_
        rotate_left
        focus (intro W hS; skip; clear hS; first | (go_simp; done) | (go_simp; with_reducible rfl))
        try simp only [Act.put, List.setIfInBounds_toArray, List.set_cons_zero, List.set_cons_succ]
        refine wpAnyH_done (by kernel_rfl) ?_ _
        have HH := hHeld
        clear hHeld
        have KX := Lib.hid HH.1
        have HR := Lib.hid HH.2.1
        have HY := Lib.hid (show Rd _ loy hiy 4 (some ⟨b, off, none⟩) m.length (cLetter m) from by rw [hml]; exact HH.2.2.1)
        have HB := Lib.hid HH.2.2.2
        clear HH
        go_wp2_with fail
        go_meet
        case rel => exact ⟨by first | rfl | rw [hml], by first | rfl | simp, KX, HR, HY, HB⟩
    case rest =>
      obtain ⟨rfl, rfl, KX, HR, HY, HB⟩ := hcut
      have lKX : w2.heap.size < wc.heap.size := KX.out.lt
      obtain ⟨h9, hh9⟩ : ∃ z, z = wc.heap.size := ⟨_, rfl⟩
      replace HR := Lib.hid (show Rd wc 0 h9 4 Al l.length (cLetter l) by rw [hh9]; exact HR.out.old (by decide))
      replace HY := Lib.hid (show Rd wc 0 h9 4 Ay m.length (cLetter m) by rw [hh9]; exact HY.out.old (by decide))
      have hh9' : h9 ≤ wc.heap.size := by omega
      clear hh9
      have kKX0 := KX.out.at_ (j := 0) rfl
      have kKX1 := KX.out.at_ (j := 1) rfl
      have kKX2 := KX.out.at_ (j := 2) rfl
      have kKX3 := KX.out.at_ (j := 3) rfl
      go_wp2_with fail
      clear kKX0 kKX1 kKX2 kKX3
      refine Calls.mono (impl_SealLetter k x _ (HPT.out _ HB.out) WK.out HX) ?_
      rintro e w6 ⟨rfl, hb⟩
      have zz6 := hb.size
      replace KX := Lib.hid (KX.out.new hb)
      replace HR := Lib.hid (HR.out.new hb)
      replace HY := Lib.hid (HY.out.new hb)
      replace HB := Lib.hid (below_trans HB.out hb (Nat.le_refl _))
      clear hb
      have lKX : w2.heap.size < w6.heap.size := KX.out.lt
      obtain ⟨s, hs⟩ : ∃ s, mSeal k x = s := ⟨_, rfl⟩
      have HSf := Lib.hid (show TLetter.fit s from by
        have hb := mKHash_bd k [x.f0, x.f1, x.f2]
        have hx := HX.out
        rw [← hs]
        unfold mSeal mSealOf TLetter.fit at *
        simp only
        split <;> omega)
      rw [hs]
      clear hs
      obtain ⟨vg, EG⟩ : ∃ v, mGen k s = v := ⟨_, rfl⟩
      have hsw : w.heap.size ≤ w6.heap.size := HB.out.size
      have hh3 : h9 ≤ w6.heap.size := by omega
      have KS := Lib.hid (show BoxAt (World.alloc w6 (.cells #[.int .i64 0, .int .i64 0, .int .i64 0, .int .i64 0] 62)) w6.heap.size 62 #[.int .i64 0, .int .i64 0, .int .i64 0, .int .i64 0] from by simpa using box_new w6 62 #[.int .i64 0, .int .i64 0, .int .i64 0, .int .i64 0])
      replace KX := Lib.hid (KX.out.alloc_ (.cells #[.int .i64 0, .int .i64 0, .int .i64 0, .int .i64 0] 62))
      replace HR := Lib.hid (HR.out.alloc (.cells #[.int .i64 0, .int .i64 0, .int .i64 0, .int .i64 0] 62))
      replace HY := Lib.hid (HY.out.alloc (.cells #[.int .i64 0, .int .i64 0, .int .i64 0, .int .i64 0] 62))
      replace HB := Lib.hid (HB.out.alloc (by have := HB.out.size; (try simp at this ⊢); omega) (.cells #[.int .i64 0, .int .i64 0, .int .i64 0, .int .i64 0] 62))
      obtain ⟨w7, hx⟩ : ∃ X, X = World.setRow (World.alloc w6 (.cells #[.int .i64 0, .int .i64 0, .int .i64 0, .int .i64 0] 62)) w6.heap.size #[.int .i64 s.f0, .int .i64 s.f1, .int .i64 s.f2, .int .i64 s.f3] := ⟨_, rfl⟩
      have HX7 := Lib.hid hx
      have OLD7 := KS
      replace KX := Lib.hid (show BoxAt w7 w2.heap.size 62 #[.int .i64 x.f0, .int .i64 x.f1, .int .i64 x.f2, .int .i64 x.f3] by rw [hx]; exact box_far KX.out (by omega))
      replace KS := Lib.hid (show BoxAt w7 w6.heap.size 62 #[.int .i64 s.f0, .int .i64 s.f1, .int .i64 s.f2, .int .i64 s.f3] by rw [hx]; exact box_row KS.out)
      replace HR := Lib.hid (show Rd w7 0 h9 4 Al l.length (cLetter l) by rw [hx]; exact HR.out.keep fun b _ hb1 _ => setRow_other _ _ b _ (by omega))
      replace HY := Lib.hid (show Rd w7 0 h9 4 Ay m.length (cLetter m) by rw [hx]; exact HY.out.keep fun b _ hb1 _ => setRow_other _ _ b _ (by omega))
      replace HB := Lib.hid (show Below w.heap.size w w7 by rw [hx]; exact below_setRow HB.out (by omega) _)
      clear hx
      have lKX : w2.heap.size < w7.heap.size := KX.out.lt
      have lKS : w6.heap.size < w7.heap.size := KS.out.lt
      have kKS0 := KS.out.at_ (j := 0) rfl
      have kKS1 := KS.out.at_ (j := 1) rfl
      have kKS2 := KS.out.at_ (j := 2) rfl
      have kKS3 := KS.out.at_ (j := 3) rfl
      go_wp2_with (refine wpList_store_row rfl 62 _ _ rfl w6.heap.size #[.int .i64 s.f0, .int .i64 s.f1, .int .i64 s.f2, .int .i64 s.f3] rfl rfl 62 _ OLD7.out (by kernel_rfl) (by kernel_rfl) (by kernel_rfl) ?_; rw [← HX7.out]; clear HX7 OLD7)
      clear kKS0 kKS1 kKS2 kKS3
      refine Calls.mono (ig_eq k s _ EG _ (HPT.out _ HB.out) WK.out HSf) ?_
      rintro e w8 ⟨rfl, hb⟩
      have zz8 := hb.size
      replace KX := Lib.hid (KX.out.new hb)
      replace KS := Lib.hid (KS.out.new hb)
      replace HR := Lib.hid (HR.out.new hb)
      replace HY := Lib.hid (HY.out.new hb)
      replace HB := Lib.hid (below_trans HB.out hb (Nat.le_refl _))
      clear hb
      have lKX : w2.heap.size < w8.heap.size := KX.out.lt
      have lKS : w6.heap.size < w8.heap.size := KS.out.lt
      go_upto_if 57 with fail
      go_cut [3] (fun s3 wx => s3 = .int .i64 k ∧ Hid (BoxAt wx w2.heap.size 62 #[.int .i64 x.f0, .int .i64 x.f1, .int .i64 x.f2, .int .i64 x.f3]) ∧ Hid (BoxAt wx w6.heap.size 62 #[.int .i64 s.f0, .int .i64 s.f1, .int .i64 s.f2, .int .i64 s.f3]) ∧ Hid (Rd wx 0 h9 4 Al l.length (cLetter l)) ∧ Hid (Rd wx 0 h9 4 Ay m.length (cLetter m)) ∧ Hid (Below w.heap.size w wx))
      case first =>
        cases vg with
        | false =>
          go_wp2_with fail
          go_meet
          case rel => exact ⟨rfl, KX, KS, HR, HY, HB⟩
        | true =>
          obtain ⟨_, b0, b1, b2, _⟩ := gen_bd EG
          have e1 : IntKind.i64.wrap (s.f0 + 1) = s.f0 + 1 := IntWalk.i64_in _ (by omega)
          have e2 : IntKind.i64.wrap (s.f2 + 1) = s.f2 + 1 := IntWalk.i64_in _ (by omega)
          have e3 : Int.tmod (s.f0 + 1) 6 = (s.f0 + 1) % 6 := Int.tmod_eq_emod_of_nonneg (by omega)
          have e4 : Int.tmod (s.f2 + 1) 1000 = (s.f2 + 1) % 1000 := Int.tmod_eq_emod_of_nonneg (by omega)
          have e5 : IntKind.i64.wrap (k + 1) = k + 1 := IntWalk.i64_in _ (by omega)
          have d0 : 0 ≤ (s.f0 + 1) % 6 := Int.emod_nonneg _ (by decide)
          have d1 : (s.f0 + 1) % 6 < 6 := Int.emod_lt_of_pos _ (by decide)
          have d2 : 0 ≤ (s.f2 + 1) % 1000 := Int.emod_nonneg _ (by decide)
          have d3 : (s.f2 + 1) % 1000 < 1000 := Int.emod_lt_of_pos _ (by decide)
          have HTf := Lib.hid (show TLetter.fit ⟨(s.f0 + 1) % 6, s.f1, s.f2, s.f3⟩ from by have := HSf.out; unfold TLetter.fit at *; simp only; omega)
          have HUf := Lib.hid (show TLetter.fit ⟨s.f0, s.f1, (s.f2 + 1) % 1000, s.f3⟩ from by have := HSf.out; unfold TLetter.fit at *; simp only; omega)
          have hsw2 : w.heap.size ≤ w8.heap.size := HB.out.size
          have hh5 : h9 ≤ w8.heap.size := by omega
          have kKS0 := KS.out.at_ (j := 0) rfl
          have kKS1 := KS.out.at_ (j := 1) rfl
          have kKS2 := KS.out.at_ (j := 2) rfl
          have kKS3 := KS.out.at_ (j := 3) rfl
          have KT := Lib.hid (show BoxAt (World.alloc w8 (.cells #[.int .i64 0, .int .i64 0, .int .i64 0, .int .i64 0] 62)) w8.heap.size 62 #[.int .i64 0, .int .i64 0, .int .i64 0, .int .i64 0] from by simpa using box_new w8 62 #[.int .i64 0, .int .i64 0, .int .i64 0, .int .i64 0])
          replace KX := Lib.hid (KX.out.alloc_ (.cells #[.int .i64 0, .int .i64 0, .int .i64 0, .int .i64 0] 62))
          replace KS := Lib.hid (KS.out.alloc_ (.cells #[.int .i64 0, .int .i64 0, .int .i64 0, .int .i64 0] 62))
          replace HR := Lib.hid (HR.out.alloc (.cells #[.int .i64 0, .int .i64 0, .int .i64 0, .int .i64 0] 62))
          replace HY := Lib.hid (HY.out.alloc (.cells #[.int .i64 0, .int .i64 0, .int .i64 0, .int .i64 0] 62))
          replace HB := Lib.hid (HB.out.alloc (by have := HB.out.size; (try simp at this ⊢); omega) (.cells #[.int .i64 0, .int .i64 0, .int .i64 0, .int .i64 0] 62))
          obtain ⟨w9, hx⟩ : ∃ X, X = World.setRow (World.alloc w8 (.cells #[.int .i64 0, .int .i64 0, .int .i64 0, .int .i64 0] 62)) w8.heap.size #[.int .i64 s.f0, .int .i64 s.f1, .int .i64 s.f2, .int .i64 s.f3] := ⟨_, rfl⟩
          have HX9 := Lib.hid hx
          have OLD9 := KT
          replace KX := Lib.hid (show BoxAt w9 w2.heap.size 62 #[.int .i64 x.f0, .int .i64 x.f1, .int .i64 x.f2, .int .i64 x.f3] by rw [hx]; exact box_far KX.out (by omega))
          replace KS := Lib.hid (show BoxAt w9 w6.heap.size 62 #[.int .i64 s.f0, .int .i64 s.f1, .int .i64 s.f2, .int .i64 s.f3] by rw [hx]; exact box_far KS.out (by omega))
          replace KT := Lib.hid (show BoxAt w9 w8.heap.size 62 #[.int .i64 s.f0, .int .i64 s.f1, .int .i64 s.f2, .int .i64 s.f3] by rw [hx]; exact box_row KT.out)
          replace HR := Lib.hid (show Rd w9 0 h9 4 Al l.length (cLetter l) by rw [hx]; exact HR.out.keep fun b _ hb1 _ => setRow_other _ _ b _ (by omega))
          replace HY := Lib.hid (show Rd w9 0 h9 4 Ay m.length (cLetter m) by rw [hx]; exact HY.out.keep fun b _ hb1 _ => setRow_other _ _ b _ (by omega))
          replace HB := Lib.hid (show Below w.heap.size w w9 by rw [hx]; exact below_setRow HB.out (by omega) _)
          clear hx
          have lKX : w2.heap.size < w9.heap.size := KX.out.lt
          have lKS : w6.heap.size < w9.heap.size := KS.out.lt
          have lKT : w8.heap.size < w9.heap.size := KT.out.lt
          go_upto_region 10 with (refine wpList_store_row rfl 62 _ _ rfl w8.heap.size #[.int .i64 s.f0, .int .i64 s.f1, .int .i64 s.f2, .int .i64 s.f3] rfl rfl 62 _ OLD9.out (by kernel_rfl) (by kernel_rfl) (by kernel_rfl) ?_; rw [← HX9.out]; clear HX9 OLD9)
          try simp only [Act.put]
          clear kKS0 kKS1 kKS2 kKS3
          have kKS0 := KS.out.at_ (j := 0) rfl
          have kKS1 := KS.out.at_ (j := 1) rfl
          have kKS2 := KS.out.at_ (j := 2) rfl
          have kKS3 := KS.out.at_ (j := 3) rfl
          have eKT := KT.out.at_ (j := 0) rfl
          have fKT := KT.out.free 0
          go_upto_region 11 with fail
          try simp only [Act.put]
          clear kKS0 kKS1 kKS2 kKS3
          clear eKT fKT
          replace KX := Lib.hid (show BoxAt (World.setCell w9 ⟨w8.heap.size, 0, none⟩ (.int .i64 ((s.f0 + 1) % 6))) w2.heap.size 62 #[.int .i64 x.f0, .int .i64 x.f1, .int .i64 x.f2, .int .i64 x.f3] from dr_put_far KX.out (by omega))
          replace KS := Lib.hid (show BoxAt (World.setCell w9 ⟨w8.heap.size, 0, none⟩ (.int .i64 ((s.f0 + 1) % 6))) w6.heap.size 62 #[.int .i64 s.f0, .int .i64 s.f1, .int .i64 s.f2, .int .i64 s.f3] from dr_put_far KS.out (by omega))
          replace KT := Lib.hid (show BoxAt (World.setCell w9 ⟨w8.heap.size, 0, none⟩ (.int .i64 ((s.f0 + 1) % 6))) w8.heap.size 62 #[.int .i64 ((s.f0 + 1) % 6), .int .i64 s.f1, .int .i64 s.f2, .int .i64 s.f3] from dr_put_box KT.out 0 _)
          replace HR := Lib.hid (show Rd (World.setCell w9 ⟨w8.heap.size, 0, none⟩ (.int .i64 ((s.f0 + 1) % 6))) 0 h9 4 Al l.length (cLetter l) from HR.out.keep fun b _ hb1 _ => Below.heap_setCell _ _ _ b (by show b ≠ w8.heap.size; omega))
          replace HY := Lib.hid (show Rd (World.setCell w9 ⟨w8.heap.size, 0, none⟩ (.int .i64 ((s.f0 + 1) % 6))) 0 h9 4 Ay m.length (cLetter m) from HY.out.keep fun b _ hb1 _ => Below.heap_setCell _ _ _ b (by show b ≠ w8.heap.size; omega))
          replace HB := Lib.hid (show Below w.heap.size w (World.setCell w9 ⟨w8.heap.size, 0, none⟩ (.int .i64 ((s.f0 + 1) % 6))) from HB.out.setCell (by show w.heap.size ≤ w8.heap.size; omega) _)
          generalize World.setCell w9 ⟨w8.heap.size, 0, none⟩ (.int .i64 ((s.f0 + 1) % 6)) = w10 at KX KS KT HR HY HB ⊢
          have lKX : w2.heap.size < w10.heap.size := KX.out.lt
          have lKS : w6.heap.size < w10.heap.size := KS.out.lt
          have lKT : w8.heap.size < w10.heap.size := KT.out.lt
          have kKS0 := KS.out.at_ (j := 0) rfl
          have kKS1 := KS.out.at_ (j := 1) rfl
          have kKS2 := KS.out.at_ (j := 2) rfl
          have kKS3 := KS.out.at_ (j := 3) rfl
          have KV := Lib.hid (show BoxAt (World.alloc w10 (.cells #[.int .i64 0, .int .i64 0, .int .i64 0, .int .i64 0] 62)) w10.heap.size 62 #[.int .i64 0, .int .i64 0, .int .i64 0, .int .i64 0] from by simpa using box_new w10 62 #[.int .i64 0, .int .i64 0, .int .i64 0, .int .i64 0])
          replace KX := Lib.hid (KX.out.alloc_ (.cells #[.int .i64 0, .int .i64 0, .int .i64 0, .int .i64 0] 62))
          replace KS := Lib.hid (KS.out.alloc_ (.cells #[.int .i64 0, .int .i64 0, .int .i64 0, .int .i64 0] 62))
          replace KT := Lib.hid (KT.out.alloc_ (.cells #[.int .i64 0, .int .i64 0, .int .i64 0, .int .i64 0] 62))
          replace HR := Lib.hid (HR.out.alloc (.cells #[.int .i64 0, .int .i64 0, .int .i64 0, .int .i64 0] 62))
          replace HY := Lib.hid (HY.out.alloc (.cells #[.int .i64 0, .int .i64 0, .int .i64 0, .int .i64 0] 62))
          replace HB := Lib.hid (HB.out.alloc (by have := HB.out.size; (try simp at this ⊢); omega) (.cells #[.int .i64 0, .int .i64 0, .int .i64 0, .int .i64 0] 62))
          obtain ⟨w11, hx⟩ : ∃ X, X = World.setRow (World.alloc w10 (.cells #[.int .i64 0, .int .i64 0, .int .i64 0, .int .i64 0] 62)) w10.heap.size #[.int .i64 s.f0, .int .i64 s.f1, .int .i64 s.f2, .int .i64 s.f3] := ⟨_, rfl⟩
          have HX11 := Lib.hid hx
          have OLD11 := KV
          replace KX := Lib.hid (show BoxAt w11 w2.heap.size 62 #[.int .i64 x.f0, .int .i64 x.f1, .int .i64 x.f2, .int .i64 x.f3] by rw [hx]; exact box_far KX.out (by omega))
          replace KS := Lib.hid (show BoxAt w11 w6.heap.size 62 #[.int .i64 s.f0, .int .i64 s.f1, .int .i64 s.f2, .int .i64 s.f3] by rw [hx]; exact box_far KS.out (by omega))
          replace KT := Lib.hid (show BoxAt w11 w8.heap.size 62 #[.int .i64 ((s.f0 + 1) % 6), .int .i64 s.f1, .int .i64 s.f2, .int .i64 s.f3] by rw [hx]; exact box_far KT.out (by omega))
          replace KV := Lib.hid (show BoxAt w11 w10.heap.size 62 #[.int .i64 s.f0, .int .i64 s.f1, .int .i64 s.f2, .int .i64 s.f3] by rw [hx]; exact box_row KV.out)
          replace HR := Lib.hid (show Rd w11 0 h9 4 Al l.length (cLetter l) by rw [hx]; exact HR.out.keep fun b _ hb1 _ => setRow_other _ _ b _ (by omega))
          replace HY := Lib.hid (show Rd w11 0 h9 4 Ay m.length (cLetter m) by rw [hx]; exact HY.out.keep fun b _ hb1 _ => setRow_other _ _ b _ (by omega))
          replace HB := Lib.hid (show Below w.heap.size w w11 by rw [hx]; exact below_setRow HB.out (by omega) _)
          clear hx
          have lKX : w2.heap.size < w11.heap.size := KX.out.lt
          have lKS : w6.heap.size < w11.heap.size := KS.out.lt
          have lKT : w8.heap.size < w11.heap.size := KT.out.lt
          have lKV : w10.heap.size < w11.heap.size := KV.out.lt
          go_upto_region 12 with (refine wpList_store_row rfl 62 _ _ rfl w10.heap.size #[.int .i64 s.f0, .int .i64 s.f1, .int .i64 s.f2, .int .i64 s.f3] rfl rfl 62 _ OLD11.out (by kernel_rfl) (by kernel_rfl) (by kernel_rfl) ?_; rw [← HX11.out]; clear HX11 OLD11)
          try simp only [Act.put]
          clear kKS0 kKS1 kKS2 kKS3
          have kKS0 := KS.out.at_ (j := 0) rfl
          have kKS1 := KS.out.at_ (j := 1) rfl
          have kKS2 := KS.out.at_ (j := 2) rfl
          have kKS3 := KS.out.at_ (j := 3) rfl
          have eKV := KV.out.at_ (j := 2) rfl
          have fKV := KV.out.free 2
          go_upto_region 13 with fail
          try simp only [Act.put]
          clear kKS0 kKS1 kKS2 kKS3
          clear eKV fKV
          replace KX := Lib.hid (show BoxAt (World.setCell w11 ⟨w10.heap.size, 2, none⟩ (.int .i64 ((s.f2 + 1) % 1000))) w2.heap.size 62 #[.int .i64 x.f0, .int .i64 x.f1, .int .i64 x.f2, .int .i64 x.f3] from dr_put_far KX.out (by omega))
          replace KS := Lib.hid (show BoxAt (World.setCell w11 ⟨w10.heap.size, 2, none⟩ (.int .i64 ((s.f2 + 1) % 1000))) w6.heap.size 62 #[.int .i64 s.f0, .int .i64 s.f1, .int .i64 s.f2, .int .i64 s.f3] from dr_put_far KS.out (by omega))
          replace KT := Lib.hid (show BoxAt (World.setCell w11 ⟨w10.heap.size, 2, none⟩ (.int .i64 ((s.f2 + 1) % 1000))) w8.heap.size 62 #[.int .i64 ((s.f0 + 1) % 6), .int .i64 s.f1, .int .i64 s.f2, .int .i64 s.f3] from dr_put_far KT.out (by omega))
          replace KV := Lib.hid (show BoxAt (World.setCell w11 ⟨w10.heap.size, 2, none⟩ (.int .i64 ((s.f2 + 1) % 1000))) w10.heap.size 62 #[.int .i64 s.f0, .int .i64 s.f1, .int .i64 ((s.f2 + 1) % 1000), .int .i64 s.f3] from dr_put_box KV.out 2 _)
          replace HR := Lib.hid (show Rd (World.setCell w11 ⟨w10.heap.size, 2, none⟩ (.int .i64 ((s.f2 + 1) % 1000))) 0 h9 4 Al l.length (cLetter l) from HR.out.keep fun b _ hb1 _ => Below.heap_setCell _ _ _ b (by show b ≠ w10.heap.size; omega))
          replace HY := Lib.hid (show Rd (World.setCell w11 ⟨w10.heap.size, 2, none⟩ (.int .i64 ((s.f2 + 1) % 1000))) 0 h9 4 Ay m.length (cLetter m) from HY.out.keep fun b _ hb1 _ => Below.heap_setCell _ _ _ b (by show b ≠ w10.heap.size; omega))
          replace HB := Lib.hid (show Below w.heap.size w (World.setCell w11 ⟨w10.heap.size, 2, none⟩ (.int .i64 ((s.f2 + 1) % 1000))) from HB.out.setCell (by show w.heap.size ≤ w10.heap.size; omega) _)
          generalize World.setCell w11 ⟨w10.heap.size, 2, none⟩ (.int .i64 ((s.f2 + 1) % 1000)) = w12 at KX KS KT KV HR HY HB ⊢
          have lKX : w2.heap.size < w12.heap.size := KX.out.lt
          have lKS : w6.heap.size < w12.heap.size := KS.out.lt
          have lKT : w8.heap.size < w12.heap.size := KT.out.lt
          have lKV : w10.heap.size < w12.heap.size := KV.out.lt
          clear e1 e2 e3 e4 d0 d1 d2 d3 b0 b1 b2
          have kKT0 := KT.out.at_ (j := 0) rfl
          have kKT1 := KT.out.at_ (j := 1) rfl
          have kKT2 := KT.out.at_ (j := 2) rfl
          have kKT3 := KT.out.at_ (j := 3) rfl
          go_wp2_with fail
          clear kKT0 kKT1 kKT2 kKT3
          refine Calls.mono (ig_eq k ⟨(s.f0 + 1) % 6, s.f1, s.f2, s.f3⟩ _ (EGF.out s EG) _ (HPT.out _ HB.out) WK.out HTf) ?_
          rintro e w13 ⟨rfl, hb⟩
          have zz13 := hb.size
          replace KX := Lib.hid (KX.out.new hb)
          replace KS := Lib.hid (KS.out.new hb)
          replace KT := Lib.hid (KT.out.new hb)
          replace KV := Lib.hid (KV.out.new hb)
          replace HR := Lib.hid (HR.out.new hb)
          replace HY := Lib.hid (HY.out.new hb)
          replace HB := Lib.hid (below_trans HB.out hb (Nat.le_refl _))
          clear hb
          have lKX : w2.heap.size < w13.heap.size := KX.out.lt
          have lKS : w6.heap.size < w13.heap.size := KS.out.lt
          have lKT : w8.heap.size < w13.heap.size := KT.out.lt
          have lKV : w10.heap.size < w13.heap.size := KV.out.lt
          have kKV0 := KV.out.at_ (j := 0) rfl
          have kKV1 := KV.out.at_ (j := 1) rfl
          have kKV2 := KV.out.at_ (j := 2) rfl
          have kKV3 := KV.out.at_ (j := 3) rfl
          go_wp2_with fail
          clear kKV0 kKV1 kKV2 kKV3
          refine Calls.mono (ig_eq k ⟨s.f0, s.f1, (s.f2 + 1) % 1000, s.f3⟩ _ (EGB.out s EG) _ (HPT.out _ HB.out) WK.out HUf) ?_
          rintro e w14 ⟨rfl, hb⟩
          have zz14 := hb.size
          replace KX := Lib.hid (KX.out.new hb)
          replace KS := Lib.hid (KS.out.new hb)
          replace KT := Lib.hid (KT.out.new hb)
          replace KV := Lib.hid (KV.out.new hb)
          replace HR := Lib.hid (HR.out.new hb)
          replace HY := Lib.hid (HY.out.new hb)
          replace HB := Lib.hid (below_trans HB.out hb (Nat.le_refl _))
          clear hb
          have lKX : w2.heap.size < w14.heap.size := KX.out.lt
          have lKS : w6.heap.size < w14.heap.size := KS.out.lt
          have lKT : w8.heap.size < w14.heap.size := KT.out.lt
          have lKV : w10.heap.size < w14.heap.size := KV.out.lt
          have kKS0 := KS.out.at_ (j := 0) rfl
          have kKS1 := KS.out.at_ (j := 1) rfl
          have kKS2 := KS.out.at_ (j := 2) rfl
          have kKS3 := KS.out.at_ (j := 3) rfl
          go_wp2_with fail
          clear kKS0 kKS1 kKS2 kKS3
          refine Calls.mono (ig_eq (k + 1) s _ (EGK.out s EG) _ (HPT.out _ HB.out) WK1.out HSf) ?_
          rintro e w15 ⟨rfl, hb⟩
          have zz15 := hb.size
          replace KX := Lib.hid (KX.out.new hb)
          replace KS := Lib.hid (KS.out.new hb)
          replace KT := Lib.hid (KT.out.new hb)
          replace KV := Lib.hid (KV.out.new hb)
          replace HR := Lib.hid (HR.out.new hb)
          replace HY := Lib.hid (HY.out.new hb)
          replace HB := Lib.hid (below_trans HB.out hb (Nat.le_refl _))
          clear hb
          have lKX : w2.heap.size < w15.heap.size := KX.out.lt
          have lKS : w6.heap.size < w15.heap.size := KS.out.lt
          have lKT : w8.heap.size < w15.heap.size := KT.out.lt
          have lKV : w10.heap.size < w15.heap.size := KV.out.lt
          go_wp2_with fail
          go_meet
          case rel => exact ⟨rfl, KX, KS, HR, HY, HB⟩
      case rest =>
        obtain ⟨rfl, KX, KS, HR, HY, HB⟩ := hcut
        have lKX : w2.heap.size < wc.heap.size := KX.out.lt
        have lKS : w6.heap.size < wc.heap.size := KS.out.lt
        clear EGF EGB EGK KX KS HSf lKX lKS
        go_wp2_with fail
        go_loopg [10, 11] 8 (fun gg s10 s11 wr => ∃ j : Nat, j ≤ 8 ∧ 8 - j ≤ gg ∧ s10 = .int .i64 ((cntTo l j : Nat) : Int) ∧ s11 = .int .i64 ((j : Int) - 1) ∧ Hid (Rd wr 0 h9 4 Al l.length (cLetter l)) ∧ Hid (Rd wr 0 h9 4 Ay m.length (cLetter m)) ∧ Hid (Below w.heap.size w wr))
        case atStart => exact ⟨0, by omega, by omega, by rw [EZ.out]; rfl, by simp, HR, HY, HB⟩
        case round =>
          clear HR HY HB
          obtain ⟨j, hj, hg, rfl, rfl, HR, HY, HB⟩ := hrel
          have ej : IntKind.i64.wrap ((j : Int) - 1 + 1) = (j : Int) - 1 + 1 := IntWalk.i64_in _ (by omega)
          have hcl := cntTo_le l j
          by_cases hlt : j < 8
          · skip
            have WJ := Lib.hid (show (Lit.int .i64 ((j : Int) - 1)).wf = true from WalkArith.wf_i64 (by constructor <;> omega))
            have ES := Lib.hid (cntTo_step l j)
            have hfl := List.length_filter_le (fun x : TLetter => x.f1 == (j : Int) - 1) l
            go_wp2_with fail
            refine Calls.mono (impl_LettersFor l Al l.length cl _ _ ((j : Int) - 1) _ (by omega) HR.out HU WJ.out) ?_
            rintro e w10 ⟨Az, cz, rfl, hF, hb⟩
            have zz10 := hb.size
            replace HR := Lib.hid (HR.out.new hb)
            replace HY := Lib.hid (HY.out.new hb)
            replace HB := Lib.hid (below_trans HB.out hb (Nat.le_refl _))
            clear hb
            clear hF
            generalize (l.filter fun x => x.f1 == (j : Int) - 1).length = nf at ES hfl ⊢
            have ew : IntKind.i64.wrap (((cntTo l j : Nat) : Int) + (nf : Int)) = ((cntTo l j : Nat) : Int) + (nf : Int) := IntWalk.i64_in _ (by omega)
            go_wp2_with fail
            go_roundg (8 - (j + 1))
            case measure => omega
            case rel => exact ⟨j + 1, by omega, by omega, by rw [ES.out]; push_cast; rfl, by congr 1; push_cast; omega, HR, HY, HB⟩
          · obtain rfl : j = 8 := by omega
            rw [EA.out]
            have e1 : ((l.length : Int) == (l.length : Int)) = true := by simp
            go_wp2_with fail
            refine Calls.mono (impl_Forged k m Ay m.length cy _ _ _ (HPT.out _ HB.out) WK.out (by omega) HY.out HYU) ?_
            rintro e w10 ⟨rfl, hb⟩
            have zz10 := hb.size
            replace HR := Lib.hid (HR.out.new hb)
            replace HY := Lib.hid (HY.out.new hb)
            replace HB := Lib.hid (below_trans HB.out hb (Nat.le_refl _))
            clear hb
            go_wp2_with fail
            refine Calls.mono (impl_Forged k l Al l.length cl _ _ _ (HPT.out _ HB.out) WK.out (by omega) HR.out HU) ?_
            rintro e w11 ⟨rfl, hb⟩
            have zz11 := hb.size
            replace HR := Lib.hid (HR.out.new hb)
            replace HY := Lib.hid (HY.out.new hb)
            replace HB := Lib.hid (below_trans HB.out hb (Nat.le_refl _))
            clear hb
            rw [EF.out]
            have hfb : 0 ≤ mForged k l ∧ mForged k l ≤ 20 := by
              unfold mForged
              have := List.length_filter_le (fun x : TLetter => !mGen k x) l
              omega
            generalize mForged k l = nf at hfb ⊢
            have ez : IntKind.i64.wrap (nf - nf) = 0 := by rw [Int.sub_self]; rfl
            go_wp2_with fail
            go_ret
            exact ⟨by first | rfl | simp, HB.out⟩
  · have g : decide ((1048576 : Int) < n0) = true := by simp; omega
    go_enter Tryd.func6, Tryd.ntmps6
    go_wp2_with fail
    refine (big_any n0 c0 A0 _ w0).mono ?_
    rintro e w1 ⟨rfl, rfl⟩
    rw [g]
    go_wp2_with fail
    go_ret
    exact ⟨rfl, Below.refl _ _⟩

set_option maxRecDepth 100000 in
theorem lifted (os : Os) (started : os.Started) (H : Type) (enc : TypeId × Value → H) :
    ReturnsInHanded {} Tryd.checked os 6 .any (fun w args => (Rows.fnLettersSpec.pre enc Tryd.prog Tryd.f6 [] false w args ∧ laidMetH Tryd.prog laidVars w) ∧ sizedMet enc Tryd.prog Tryd.f6 (OpenSpec.ofChange Rows.fnLettersSpec) false w args) (Rows.fnLettersSpec.post enc Tryd.prog Tryd.f6 false true false false) := by
  refine law_lifted_laid Tryd.func6 (by kernel_rfl) rfl rfl (by kernel_rfl) os started
    (ChangeSpec.witness_shaped (enc := enc) (C := Tryd.checked) (os := os) (X := fun w _ => laidMetH Tryd.prog laidVars w) false (World.laidAll Tryd.prog os laidVars) #[.slice none 0 0] 8 (World.laidAll_os _ _ _)
      (World.shaped_of_ZipB (by kernel_rfl) (by kernel_rfl)) (by kernel_rfl) (by kernel_rfl) (by kernel_rfl)
      (by rw [MakeChecks.laidMetH_plain _ _ _ (by kernel_rfl)]; exact laidMet_laidAll _ (by kernel_rfl) (by kernel_rfl))) ?_
  intro W base args ds p hT hval hA hlt
  rw [Tryd.params6] at hA hval
  obtain ⟨v0, vs0, d0, ds0, p0, q0, hargs, rfl, rfl, h0, r0⟩ := trodAll_cons hA
  obtain ⟨rfl, rfl, rfl⟩ := trodAll_nil r0
  obtain rfl : args = #[v0] := by cases args; simp_all
  obtain ⟨A0, n0, c0, rfl, w0, m0⟩ := open_bytes (hval 0 22 v0 rfl rfl) h0 (fun x hx => hlt x (by simp [hx]))
  exact ⟨fun _ => ⟨rfl, rfl, rfl⟩, walk A0 n0 c0 w0 W m0 hT⟩

theorem over : Rows.fnLettersRow.holds Tryd.pinned (OpenSpec.ofChange Rows.fnLettersSpec) :=
  OpenClaim.holds_of_wide 6 Tryd.f6 rfl rfl rfl rfl rfl rfl rfl ⟨rfl, rfl, rfl, rfl, rfl⟩ rfl rfl rfl rfl rfl (by kernel_rfl) Tryd.func6 (by kernel_rfl)
    (of_decide_eq_true (by kernel_rfl)) (by unfold Func.isWrapper; first | (rw [if_pos (by decide +kernel)]; kernel_rfl) | (rw [if_neg (by decide +kernel)]; exact ⟨rfl, rfl⟩))
    (fun os started H enc _ => lifted os started H enc)

theorem proved : Rows.FnLettersCardSaid :=
  Claim7.holds_tied_plain_at .later [] [.sentinel] true Rows.fnLettersCard.stood.harness true over (fun _ h => by cases h) (by kernel_rfl) (fun _ h => by cases h) fnLetters_row_tie rfl ⟨rfl, rfl⟩ (by kernel_rfl) rfl
    (fun f fn hf hfn => by
      obtain rfl : f = 6 := Option.some.inj ((show Tryd.prog.funcNamed "loop.example/g03001/laws.FnLetters" = some 6 by kernel_rfl).symm.trans hf) |>.symm
      obtain rfl : fn = Tryd.f6 := (Option.some.inj (Tryd.func6.symm.trans hfn)).symm
      exact ⟨by kernel_rfl, fun j t ht => by
        rw [Tryd.params6] at ht
        have hm : t ∈ [22] := by simpa using Array.mem_of_getElem? ht
        have hall : ([22].all fun u => !Tryd.prog.wantsStandIn u) = true := by kernel_rfl
        exact (show Tryd.prog.wantsStandIn t = false by simpa using List.all_eq_true.1 hall t hm)⟩)
    (by kernel_rfl)
#print axioms proved
end Go.Proofs.YtlnmgfbfpjfddaaDoor.fnLetters
