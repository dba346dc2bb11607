/- What a world sees, in the program: look and SeenBy. -/
import Derived.Test.YtomoigbhikihfaaSgI
namespace Go.Proofs.Ytomoigbhikihfaa
open Go Go.ChangeShapes Go.WideShapes Go.ChangeAt Go.RowKit Go.Lib
set_option linter.unusedVariables false
set_option linter.unusedSimpArgs false
set_option maxRecDepth 100000

/-- The Ids that are seen, as the program's map has them. -/
def mLook (l : List TNode) (h : List Int) (b : Int) (id : Int) : Bool := (idx (mSeen l h b) id).isSome
/-- What look answers. -/
def Looks (l : List TNode) (A : Option Addr) (n c : Nat) (h : List Int) (b : Int) (w : World) (e : Ending) (w' : World) : Prop :=
  ∃ B M k, e = .returned (.agg #[.slice A n c, .map (some B), .map (some M)]) ∧ MapAt w' B n (idx l) ∧ MapB w' M k (mLook l h b) ∧ w.heap.size ≤ B ∧ w.heap.size ≤ M ∧ Below w.heap.size w w'
theorem store_func (W : World) (a : Addr) (g : Nat) (cs : Array Value) (m : Mode) : (store a (.func (.func g) #[] cs) m).run Try.prog W = stored Try.prog W a (.func (.func g) #[] cs) m := run_store Try.prog W a _ m rfl
set_option maxHeartbeats 8000000 in
theorem look_any (l : List TNode) (A : Option Addr) (n c lo hi : Nat) (h : List Int) (A1 : Option Addr) (n1 c1 lo1 hi1 : Nat) (b : Int) (w : World) (hn : n ≤ 1048576) (hr : Rd w lo hi 5 A n (cNode l)) (hok : Hid (cNodeOk l)) (hn1 : n1 ≤ 1048576) (hr1 : Rd w lo1 hi1 1 A1 n1 (i64s h)) :
    Calls Try.prog 43 #[.slice A n c, .slice A1 n1 c1, .int .i64 b] w (Looks l A n c h b w) := by
  have HL := Lib.hid (rd_len TNode.len hr (by decide))
  have HR := Lib.hid (((((hr.old (by decide)).alloc (.cells #[.slice A n c] 25)).alloc (.cells #[.slice A1 n1 c1] 23)).alloc (.cells #[.int .i64 b] 3)).alloc (.cells #[.slice none 0 0, .map none, .map none] 62))
  have HR1 := Lib.hid (((((hr1.old (by decide)).alloc (.cells #[.slice A n c] 25)).alloc (.cells #[.slice A1 n1 c1] 23)).alloc (.cells #[.int .i64 b] 3)).alloc (.cells #[.slice none 0 0, .map none, .map none] 62))
  have KD : Hid (BoxAt ((((w.alloc (.cells #[.slice A n c] 25)).alloc (.cells #[.slice A1 n1 c1] 23)).alloc (.cells #[.int .i64 b] 3)).alloc (.cells #[.slice none 0 0, .map none, .map none] 62)) (w.heap.size) 25 #[.slice A n c]) := Lib.hid (by simpa using ((((box_new w 25 #[.slice A n c]).alloc_ (.cells #[.slice A1 n1 c1] 23)).alloc_ (.cells #[.int .i64 b] 3)).alloc_ (.cells #[.slice none 0 0, .map none, .map none] 62)))
  have KH : Hid (BoxAt ((((w.alloc (.cells #[.slice A n c] 25)).alloc (.cells #[.slice A1 n1 c1] 23)).alloc (.cells #[.int .i64 b] 3)).alloc (.cells #[.slice none 0 0, .map none, .map none] 62)) (w.heap.size + 1) 23 #[.slice A1 n1 c1]) := Lib.hid (by simpa using (((box_new (w.alloc (.cells #[.slice A n c] 25)) 23 #[.slice A1 n1 c1]).alloc_ (.cells #[.int .i64 b] 3)).alloc_ (.cells #[.slice none 0 0, .map none, .map none] 62)))
  have KY : Hid (BoxAt ((((w.alloc (.cells #[.slice A n c] 25)).alloc (.cells #[.slice A1 n1 c1] 23)).alloc (.cells #[.int .i64 b] 3)).alloc (.cells #[.slice none 0 0, .map none, .map none] 62)) (w.heap.size + 1 + 1) 3 #[.int .i64 b]) := Lib.hid (by simpa using ((box_new ((w.alloc (.cells #[.slice A n c] 25)).alloc (.cells #[.slice A1 n1 c1] 23)) 3 #[.int .i64 b]).alloc_ (.cells #[.slice none 0 0, .map none, .map none] 62)))
  have KR : Hid (BoxAt ((((w.alloc (.cells #[.slice A n c] 25)).alloc (.cells #[.slice A1 n1 c1] 23)).alloc (.cells #[.int .i64 b] 3)).alloc (.cells #[.slice none 0 0, .map none, .map none] 62)) (w.heap.size + 1 + 1 + 1) 62 #[.slice none 0 0, .map none, .map none]) := Lib.hid (by simpa using (box_new (((w.alloc (.cells #[.slice A n c] 25)).alloc (.cells #[.slice A1 n1 c1] 23)).alloc (.cells #[.int .i64 b] 3)) 62 #[.slice none 0 0, .map none, .map none]))
  have HB0 : Hid (Below w.heap.size w ((((w.alloc (.cells #[.slice A n c] 25)).alloc (.cells #[.slice A1 n1 c1] 23)).alloc (.cells #[.int .i64 b] 3)).alloc (.cells #[.slice none 0 0, .map none, .map none] 62))) := Lib.hid (by repeat (first | exact Below.refl _ _ | (refine Below.alloc ?_ (by simp <;> omega) _)))
  have HS0 : Hid (((((w.alloc (.cells #[.slice A n c] 25)).alloc (.cells #[.slice A1 n1 c1] 23)).alloc (.cells #[.int .i64 b] 3)).alloc (.cells #[.slice none 0 0, .map none, .map none] 62)).heap.size = w.heap.size + 4) := Lib.hid (by simp)
  have hst := fun (W : World) (a : Addr) (cs : Array Value) (m : Mode) => store_func W a 63 cs m
  have hmm := make_map_none Try.underlying60
  clear hr hr1
  go_enter Try.func43, Try.ntmps43
  go_wp2_with fail
  generalize ((((w.alloc (.cells #[.slice A n c] 25)).alloc (.cells #[.slice A1 n1 c1] 23)).alloc (.cells #[.int .i64 b] 3)).alloc (.cells #[.slice none 0 0, .map none, .map none] 62)) = V at KD KH KY KR HB0 HS0 HR HR1 ⊢
  refine (newPage_any l A n c 0 w.heap.size V (by omega) HR.out hok).mono ?_
  rintro e1 w1 ⟨B, rfl, hB, hM, hb1⟩
  have KD1 := Lib.hid (KD.out.new hb1)
  have KH1 := Lib.hid (KH.out.new hb1)
  have KY1 := Lib.hid (KY.out.new hb1)
  have KR1 := Lib.hid (KR.out.new hb1)
  have HM1 := Lib.hid hM
  have HRa := Lib.hid (HR.out.new hb1)
  have HRb := Lib.hid (HR1.out.new hb1)
  have HB1 := Lib.hid (HB0.out.trans (hb1.mono (by have := HS0.out; omega)))
  have hs1 : w.heap.size + 4 ≤ w1.heap.size := by have := HS0.out; have := hb1.size; omega
  have hD1 : w.heap.size < w1.heap.size := by omega
  have hBl : B < w1.heap.size := hM.lt
  have hB0 : w.heap.size + 4 ≤ B := by have := HS0.out; omega
  have kd1 := KD1.out.at_ (j := 0) (u := .slice A n c) rfl
  clear hb1 hM hB KD KH KY KR HR HR1
  have HW : Hid (WalkAt (((w1.alloc (.map #[] 0)).alloc (.cells #[.slice A n c, .map (some B), .map (some w1.heap.size)] 62)).alloc (.cells #[(.func (.func 63) #[] #[.pointer (some ⟨w.heap.size, 0, none⟩), .pointer (some ⟨w1.heap.size + 1, 0, none⟩), .pointer (some ⟨w.heap.size + 1 + 1, 0, none⟩), .pointer (some ⟨w.heap.size + 1, 0, none⟩), .pointer (some ⟨w1.heap.size + 1 + 1, 0, none⟩)])] 85)) l A n c h A1 n1 c1 b w.heap.size (w1.heap.size + 1) (w.heap.size + 1 + 1) (w.heap.size + 1) (w1.heap.size + 1 + 1) B w1.heap.size) := Lib.hid ⟨(((KD1.out.alloc_ (.map #[] 0)).alloc_ (.cells #[.slice A n c, .map (some B), .map (some w1.heap.size)] 62)).alloc_ (.cells #[(.func (.func 63) #[] #[.pointer (some ⟨w.heap.size, 0, none⟩), .pointer (some ⟨w1.heap.size + 1, 0, none⟩), .pointer (some ⟨w.heap.size + 1 + 1, 0, none⟩), .pointer (some ⟨w.heap.size + 1, 0, none⟩), .pointer (some ⟨w1.heap.size + 1 + 1, 0, none⟩)])] 85)), by simpa using (box_new (w1.alloc (.map #[] 0)) 62 #[.slice A n c, .map (some B), .map (some w1.heap.size)]).alloc_ (.cells #[(.func (.func 63) #[] #[.pointer (some ⟨w.heap.size, 0, none⟩), .pointer (some ⟨w1.heap.size + 1, 0, none⟩), .pointer (some ⟨w.heap.size + 1 + 1, 0, none⟩), .pointer (some ⟨w.heap.size + 1, 0, none⟩), .pointer (some ⟨w1.heap.size + 1 + 1, 0, none⟩)])] 85), (((KY1.out.alloc_ (.map #[] 0)).alloc_ (.cells #[.slice A n c, .map (some B), .map (some w1.heap.size)] 62)).alloc_ (.cells #[(.func (.func 63) #[] #[.pointer (some ⟨w.heap.size, 0, none⟩), .pointer (some ⟨w1.heap.size + 1, 0, none⟩), .pointer (some ⟨w.heap.size + 1 + 1, 0, none⟩), .pointer (some ⟨w.heap.size + 1, 0, none⟩), .pointer (some ⟨w1.heap.size + 1 + 1, 0, none⟩)])] 85)), (((KH1.out.alloc_ (.map #[] 0)).alloc_ (.cells #[.slice A n c, .map (some B), .map (some w1.heap.size)] 62)).alloc_ (.cells #[(.func (.func 63) #[] #[.pointer (some ⟨w.heap.size, 0, none⟩), .pointer (some ⟨w1.heap.size + 1, 0, none⟩), .pointer (some ⟨w.heap.size + 1 + 1, 0, none⟩), .pointer (some ⟨w.heap.size + 1, 0, none⟩), .pointer (some ⟨w1.heap.size + 1 + 1, 0, none⟩)])] 85)), by simpa using box_new ((w1.alloc (.map #[] 0)).alloc (.cells #[.slice A n c, .map (some B), .map (some w1.heap.size)] 62)) 85 #[(.func (.func 63) #[] #[.pointer (some ⟨w.heap.size, 0, none⟩), .pointer (some ⟨w1.heap.size + 1, 0, none⟩), .pointer (some ⟨w.heap.size + 1 + 1, 0, none⟩), .pointer (some ⟨w.heap.size + 1, 0, none⟩), .pointer (some ⟨w1.heap.size + 1 + 1, 0, none⟩)])], (((HM1.out.alloc_ (.map #[] 0)).alloc_ (.cells #[.slice A n c, .map (some B), .map (some w1.heap.size)] 62)).alloc_ (.cells #[(.func (.func 63) #[] #[.pointer (some ⟨w.heap.size, 0, none⟩), .pointer (some ⟨w1.heap.size + 1, 0, none⟩), .pointer (some ⟨w.heap.size + 1 + 1, 0, none⟩), .pointer (some ⟨w.heap.size + 1, 0, none⟩), .pointer (some ⟨w1.heap.size + 1 + 1, 0, none⟩)])] 85)), (((HRa.out.alloc (.map #[] 0)).alloc (.cells #[.slice A n c, .map (some B), .map (some w1.heap.size)] 62)).alloc (.cells #[(.func (.func 63) #[] #[.pointer (some ⟨w.heap.size, 0, none⟩), .pointer (some ⟨w1.heap.size + 1, 0, none⟩), .pointer (some ⟨w.heap.size + 1 + 1, 0, none⟩), .pointer (some ⟨w.heap.size + 1, 0, none⟩), .pointer (some ⟨w1.heap.size + 1 + 1, 0, none⟩)])] 85)).mono (Nat.le_refl _) (by omega), (((HRb.out.alloc (.map #[] 0)).alloc (.cells #[.slice A n c, .map (some B), .map (some w1.heap.size)] 62)).alloc (.cells #[(.func (.func 63) #[] #[.pointer (some ⟨w.heap.size, 0, none⟩), .pointer (some ⟨w1.heap.size + 1, 0, none⟩), .pointer (some ⟨w.heap.size + 1 + 1, 0, none⟩), .pointer (some ⟨w.heap.size + 1, 0, none⟩), .pointer (some ⟨w1.heap.size + 1 + 1, 0, none⟩)])] 85)).mono (Nat.le_refl _) (by omega), by omega⟩
  have KRv : Hid (BoxAt (((w1.alloc (.map #[] 0)).alloc (.cells #[.slice A n c, .map (some B), .map (some w1.heap.size)] 62)).alloc (.cells #[(.func (.func 63) #[] #[.pointer (some ⟨w.heap.size, 0, none⟩), .pointer (some ⟨w1.heap.size + 1, 0, none⟩), .pointer (some ⟨w.heap.size + 1 + 1, 0, none⟩), .pointer (some ⟨w.heap.size + 1, 0, none⟩), .pointer (some ⟨w1.heap.size + 1 + 1, 0, none⟩)])] 85)) (w.heap.size + 1 + 1 + 1) 62 #[.slice none 0 0, .map none, .map none]) := Lib.hid (((KR1.out.alloc_ (.map #[] 0)).alloc_ (.cells #[.slice A n c, .map (some B), .map (some w1.heap.size)] 62)).alloc_ (.cells #[(.func (.func 63) #[] #[.pointer (some ⟨w.heap.size, 0, none⟩), .pointer (some ⟨w1.heap.size + 1, 0, none⟩), .pointer (some ⟨w.heap.size + 1 + 1, 0, none⟩), .pointer (some ⟨w.heap.size + 1, 0, none⟩), .pointer (some ⟨w1.heap.size + 1 + 1, 0, none⟩)])] 85))
  have HMv : Hid (MapB (((w1.alloc (.map #[] 0)).alloc (.cells #[.slice A n c, .map (some B), .map (some w1.heap.size)] 62)).alloc (.cells #[(.func (.func 63) #[] #[.pointer (some ⟨w.heap.size, 0, none⟩), .pointer (some ⟨w1.heap.size + 1, 0, none⟩), .pointer (some ⟨w.heap.size + 1 + 1, 0, none⟩), .pointer (some ⟨w.heap.size + 1, 0, none⟩), .pointer (some ⟨w1.heap.size + 1 + 1, 0, none⟩)])] 85)) w1.heap.size 0 (fun _ => false)) := Lib.hid (((mapB_made w1).alloc_ (.cells #[.slice A n c, .map (some B), .map (some w1.heap.size)] 62)).alloc_ (.cells #[(.func (.func 63) #[] #[.pointer (some ⟨w.heap.size, 0, none⟩), .pointer (some ⟨w1.heap.size + 1, 0, none⟩), .pointer (some ⟨w.heap.size + 1 + 1, 0, none⟩), .pointer (some ⟨w.heap.size + 1, 0, none⟩), .pointer (some ⟨w1.heap.size + 1 + 1, 0, none⟩)])] 85))
  have HBv : Hid (Below w.heap.size w (((w1.alloc (.map #[] 0)).alloc (.cells #[.slice A n c, .map (some B), .map (some w1.heap.size)] 62)).alloc (.cells #[(.func (.func 63) #[] #[.pointer (some ⟨w.heap.size, 0, none⟩), .pointer (some ⟨w1.heap.size + 1, 0, none⟩), .pointer (some ⟨w.heap.size + 1 + 1, 0, none⟩), .pointer (some ⟨w.heap.size + 1, 0, none⟩), .pointer (some ⟨w1.heap.size + 1 + 1, 0, none⟩)])] 85))) := Lib.hid (by have := HB1.out.size; exact ((HB1.out.alloc (by omega) _).alloc (by simp <;> omega) _).alloc (by simp <;> omega) _)
  have HSv : Hid ((((w1.alloc (.map #[] 0)).alloc (.cells #[.slice A n c, .map (some B), .map (some w1.heap.size)] 62)).alloc (.cells #[(.func (.func 63) #[] #[.pointer (some ⟨w.heap.size, 0, none⟩), .pointer (some ⟨w1.heap.size + 1, 0, none⟩), .pointer (some ⟨w.heap.size + 1 + 1, 0, none⟩), .pointer (some ⟨w.heap.size + 1, 0, none⟩), .pointer (some ⟨w1.heap.size + 1 + 1, 0, none⟩)])] 85)).heap.size = w1.heap.size + 3) := Lib.hid (by simp)
  have kdv := HW.out.d.at_ (j := 0) (u := .slice A n c) rfl
  go_wp2_with fail
  clear kdv
  generalize (((w1.alloc (.map #[] 0)).alloc (.cells #[.slice A n c, .map (some B), .map (some w1.heap.size)] 62)).alloc (.cells #[(.func (.func 63) #[] #[.pointer (some ⟨w.heap.size, 0, none⟩), .pointer (some ⟨w1.heap.size + 1, 0, none⟩), .pointer (some ⟨w.heap.size + 1 + 1, 0, none⟩), .pointer (some ⟨w.heap.size + 1, 0, none⟩), .pointer (some ⟨w1.heap.size + 1 + 1, 0, none⟩)])] 85)) = V2 at HW KRv HMv HBv HSv ⊢
  refine (impl_IsDocument l A n c 0 w1.heap.size V2 (by omega) HW.out.r hok).mono ?_
  rintro e2 w2 ⟨rfl, hb2⟩
  have HW2 := Lib.hid (HW.out.new hb2)
  have KR2 := Lib.hid (KRv.out.new hb2)
  have HM2 := Lib.hid (HMv.out.new hb2)
  have HB2 := Lib.hid (below_trans HBv.out hb2 (by have := HSv.out; omega))
  have HS2 := Lib.hid (show w1.heap.size + 3 ≤ w2.heap.size by have := HSv.out; have := hb2.size; omega)
  clear hb2 HW KRv HMv HBv HSv KD1 KH1 KY1 KR1 HM1 HRa HRb HB1 kd1
  by_cases hd : mIsDoc l = true
  · have HD := Lib.hid hd
    have h0n : 0 < l.length := by
      have := hd; unfold mIsDoc at this; rw [Bool.and_eq_true] at this; have := inR_true.1 this.1; omega
    have hn16 : n ≤ 16 := by
      have := hd; unfold mIsDoc at this; rw [Bool.and_eq_true] at this; have := inR_true.1 this.1; have := HL.out; omega
    have hx : l[0]? = some l[0] := List.getElem?_eq_getElem h0n
    have hx0 : l[0].f0 = 0 := by
      have hf := doc_at hd hx
      unfold fitAt at hf
      rw [if_pos rfl, Bool.and_eq_true, beq_iff_eq] at hf
      exact hf.1
    have HC := Lib.hid (walk_any l A n c h A1 n1 c1 b _ _ _ _ _ _ _ HD hok hn16 hn1 16 0 l[0] 0 _ w2 (by omega) hx HW2.out HM2.out (by have := bnd_16; omega))
    rw [hx0] at HC
    rw [hd]
    have kf := HW2.out.f.at_ (j := 0) (u := (.func (.func 63) #[] #[.pointer (some ⟨w.heap.size, 0, none⟩), .pointer (some ⟨w1.heap.size + 1, 0, none⟩), .pointer (some ⟨w.heap.size + 1 + 1, 0, none⟩), .pointer (some ⟨w.heap.size + 1, 0, none⟩), .pointer (some ⟨w1.heap.size + 1 + 1, 0, none⟩)])) rfl
    clear hx hx0 hd
    go_wp2_with fail
    refine HC.out.mono ?_
    rintro e3 w3 ⟨k1, s1, rfl, hm3, _, hs3, hc3⟩
    have HB3 := Lib.hid (HB2.out.trans (hc3.below (B := w.heap.size) (.inl (by omega)) (by have := HB2.out.size; omega)))
    have HW3 := HW2.out.chg hc3
    have KR3 := KR2.out.chg hc3 (by omega)
    have HP3 := Lib.hid HW3.i
    have HM3 := Lib.hid (hm3.congr_ (s' := mLook l h b) (fun id => by
      have h1 := hs3 id
      have h2 := seen_idx (l := l) (h := h) (b := b) HD.out id
      unfold mLook
      rw [Bool.eq_iff_iff, h1, h2]
      simp))
    have g0 := HW3.s.at_ (j := 0) (u := .slice A n c) rfl
    have g1 := HW3.s.at_ (j := 1) (u := .map (some B)) rfl
    have g2 := HW3.s.at_ (j := 2) (u := .map (some w1.heap.size)) rfl
    have r0 := KR3.at_ (j := 0) (u := .slice none 0 0) rfl
    have r1 := KR3.at_ (j := 1) (u := .map none) rfl
    have r2 := KR3.at_ (j := 2) (u := .map none) rfl
    have f0 := KR3.free 0
    have f1 := KR3.free 1
    have f2 := KR3.free 2
    have KR4 := Lib.hid KR3
    clear hm3 hs3 hc3 HW3 KR3 HC kf
    go_wp2_with fail
    refine bodyPost_ret (v := .agg #[.slice A n c, .map (some B), .map (some w1.heap.size)]) (by simp [results, Try.results43, go_sem, r0, r1, r2]) rfl ⟨B, w1.heap.size, k1, rfl, HP3.out.keep ?_, HM3.out.keep ?_, by omega, by omega, ((HB3.out.setCell (by show w.heap.size ≤ w.heap.size + 1 + 1 + 1; omega) _).setCell (by show w.heap.size ≤ w.heap.size + 1 + 1 + 1; omega) _).setCell (by show w.heap.size ≤ w.heap.size + 1 + 1 + 1; omega) _⟩
    · rw [Below.heap_setCell _ _ _ _ (by simp; omega), Below.heap_setCell _ _ _ _ (by simp; omega), Below.heap_setCell _ _ _ _ (by simp; omega)]
    · rw [Below.heap_setCell _ _ _ _ (by simp; omega), Below.heap_setCell _ _ _ _ (by simp; omega), Below.heap_setCell _ _ _ _ (by simp; omega)]
  · have hd : mIsDoc l = false := by simpa using hd
    have HM3 := Lib.hid (HM2.out.congr_ (s' := mLook l h b) (fun id => by unfold mLook mSeen; rw [hd]; rfl))
    have HP3 := Lib.hid HW2.out.i
    have g0 := HW2.out.s.at_ (j := 0) (u := .slice A n c) rfl
    have g1 := HW2.out.s.at_ (j := 1) (u := .map (some B)) rfl
    have g2 := HW2.out.s.at_ (j := 2) (u := .map (some w1.heap.size)) rfl
    have r0 := KR2.out.at_ (j := 0) (u := .slice none 0 0) rfl
    have r1 := KR2.out.at_ (j := 1) (u := .map none) rfl
    have r2 := KR2.out.at_ (j := 2) (u := .map none) rfl
    have f0 := KR2.out.free 0
    have f1 := KR2.out.free 1
    have f2 := KR2.out.free 2
    rw [hd]
    clear hd HM2 KR2
    go_wp2_with fail
    refine bodyPost_ret (v := .agg #[.slice A n c, .map (some B), .map (some w1.heap.size)]) (by simp [results, Try.results43, go_sem, r0, r1, r2]) rfl ⟨B, w1.heap.size, 0, rfl, HP3.out.keep ?_, HM3.out.keep ?_, by omega, by omega, ((HB2.out.setCell (by show w.heap.size ≤ w.heap.size + 1 + 1 + 1; omega) _).setCell (by show w.heap.size ≤ w.heap.size + 1 + 1 + 1; omega) _).setCell (by show w.heap.size ≤ w.heap.size + 1 + 1 + 1; omega) _⟩
    · rw [Below.heap_setCell _ _ _ _ (by simp; omega), Below.heap_setCell _ _ _ _ (by simp; omega), Below.heap_setCell _ _ _ _ (by simp; omega)]
    · rw [Below.heap_setCell _ _ _ _ (by simp; omega), Below.heap_setCell _ _ _ _ (by simp; omega), Below.heap_setCell _ _ _ _ (by simp; omega)]
/-- The nodes at the first k places that the map has. -/
def mSeenTo (l : List TNode) (h : List Int) (b : Int) (k : Nat) : List TNode := (l.take k).filter fun x => mLook l h b x.f0
theorem seenTo_step {l : List TNode} {h : List Int} {b : Int} {k : Nat} {x : TNode} (hx : l[k]? = some x) : mSeenTo l h b (k + 1) = if mLook l h b x.f0 = true then mSeenTo l h b k ++ [x] else mSeenTo l h b k := by
  unfold mSeenTo
  exact filter_sn (fun x : TNode => mLook l h b x.f0) hx
theorem mSeenTo_len {l : List TNode} {h : List Int} {b : Int} (k : Nat) : (mSeenTo l h b k).length ≤ k := Nat.le_trans (List.length_filter_le _ _) (List.length_take_le _ _)
theorem seenTo_is {l : List TNode} {h : List Int} {b : Int} (hd : mIsDoc l = true) : ∀ k, k ≤ l.length → seenTo l h b k = mSeenTo l h b k := by
  intro k
  induction k with
  | zero => intro _; rfl
  | succ k ih =>
    intro hk
    have hx : l[k]? = some l[k] := List.getElem?_eq_getElem (by omega)
    have h1 : mLook l h b l[k].f0 = true ↔ mSees l h b k = true := (seen_idx hd l[k].f0).symm.trans (seen_at hd hx)
    rw [seenTo_step hx, ← ih (by omega)]
    cases hs : mSees l h b k with
    | true => rw [seenTo_some hx hs, if_pos (h1.2 hs)]
    | false => rw [seenTo_none hx hs, if_neg (fun e => by rw [h1.1 e] at hs; cases hs)]
theorem mSeen_to {l : List TNode} {h : List Int} {b : Int} : mSeen l h b = mSeenTo l h b l.length := by
  by_cases hd : mIsDoc l = true
  · rw [← seenTo_is hd _ (Nat.le_refl _)]
    unfold mSeen
    rw [if_pos hd]
  · have hn : mSeen l h b = [] := by unfold mSeen; rw [if_neg hd]
    unfold mSeenTo mLook
    rw [hn, List.filter_eq_nil_iff.2 (fun x _ => by simp [idx])]
set_option maxHeartbeats 8000000 in
theorem impl_SeenByC (l0 : List TNode) (A0 : Option Addr) (n0 c0 lo0 hi0 : Nat) (l1 : List Int) (A1 : Option Addr) (n1 c1 lo1 hi1 : Nat) (a2 : Int) (w : World) (h0 : n0 ≤ 1048576) (r0 : Rd w lo0 hi0 5 A0 n0 (cNode l0)) (p0 : n0 ≤ c0) (b0 : Hid (cNodeOk l0))
    (h1 : n1 ≤ 1048576) (r1 : Rd w lo1 hi1 1 A1 n1 (i64s l1)) (p1 : n1 ≤ c1) (b1 : Hid (I64s l1)) (w2 : (Lit.int .i64 a2).wf = true) :
    Calls Try.prog 16 #[.slice A0 n0 c0, .slice A1 n1 c1, .int .i64 a2] w (Makes 54 5 (mSeen l0 l1 a2).length (cNode (mSeen l0 l1 a2)) w) := by
  have HR := Lib.hid r0
  have HL := Lib.hid (rd_len TNode.len r0 (by decide))
  have HR1 := Lib.hid r1
  clear r0 r1 w2
  have HG := Lib.hid (show ∀ k x, l0[k]? = some x → mSeenTo l0 l1 a2 (k + 1) = if mLook l0 l1 a2 x.f0 = true then mSeenTo l0 l1 a2 k ++ [x] else mSeenTo l0 l1 a2 k from fun k x hx => seenTo_step hx)
  have HN := Lib.hid (show ∀ k, (mSeenTo l0 l1 a2 k).length ≤ k from mSeenTo_len)
  have HE := Lib.hid (show mSeen l0 l1 a2 = mSeenTo l0 l1 a2 n0 by rw [← HL.out]; exact mSeen_to)
  go_enter Try.func16, Try.ntmps16
  go_wp2_with fail
  refine (look_any l0 A0 n0 c0 lo0 hi0 l1 A1 n1 c1 lo1 hi1 a2 _ h0 HR.out b0 h1 HR1.out).mono ?_
  rintro e1 w1 ⟨B, M, kk, rfl, hP, hM, hB, hMl, hb1⟩
  have HM := Lib.hid hM
  have HB1 := Lib.hid hb1
  have KS : Hid (BoxAt (w1.alloc (.cells #[.slice A0 n0 c0, .map (some B), .map (some M)] 62)) w1.heap.size 62 #[.slice A0 n0 c0, .map (some B), .map (some M)]) := Lib.hid (box_new _ _ _)
  have hMw := hM.lt
  clear hP hM hb1
  go_wp2_with fail
  go_loopg [8, 18] n0 (fun gg v i wr => ∃ k : Nat, k ≤ n0 ∧ n0 - k ≤ gg ∧ i = .int .i64 k ∧ Hid (wr.ownsRow (w1.heap.size + 1) 54 5 v (mSeenTo l0 l1 a2 k).length (cNode (mSeenTo l0 l1 a2 k))) ∧ Hid (Below (w1.heap.size + 1) (w1.alloc (.cells #[.slice A0 n0 c0, .map (some B), .map (some M)] 62)) wr))
  case atStart => exact ⟨0, Nat.zero_le _, by omega, rfl, Lib.hid (by have h : ((w1.alloc (.cells #[.slice A0 n0 c0, .map (some B), .map (some M)] 62)).alloc (.cells #[] 54)).ownsRow (w1.heap.size + 1) 54 5 (.slice (some ⟨(w1.alloc (.cells #[.slice A0 n0 c0, .map (some B), .map (some M)] 62)).heap.size, 0, none⟩) 0 0) 0 (#[] : Array Value).toList := World.ownsRow_lit (w1.alloc (.cells #[.slice A0 n0 c0, .map (some B), .map (some M)] 62)) #[] 0 (by rw [World.size_alloc]; exact Nat.le_refl _) (by unfold maxLen; omega) rfl; simpa [mSeenTo, cNode] using h), Lib.hid ((Below.refl (w1.heap.size + 1) (w1.alloc (.cells #[.slice A0 n0 c0, .map (some B), .map (some M)] 62))).alloc (by rw [World.size_alloc]; exact Nat.le_refl _) _)⟩
  case round =>
    obtain ⟨k, hk, hg, rfl, HO, HB⟩ := hrel
    have hBs := HB.out.size
    rw [World.size_alloc] at hBs
    have HRw := Lib.hid (((HR.out.new HB1.out).alloc (.cells #[.slice A0 n0 c0, .map (some B), .map (some M)] 62)).new (HB.out.mono (by simp)))
    have HMr := Lib.hid ((HM.out.alloc_ (.cells #[.slice A0 n0 c0, .map (some B), .map (some M)] 62)).new (HB.out.mono (by simp)))
    have KSr := KS.out.new (HB.out.mono (by simp))
    have s0 := KSr.at_ (j := 0) (u := .slice A0 n0 c0) rfl
    have s1 := KSr.at_ (j := 1) (u := .map (some B)) rfl
    have s2 := KSr.at_ (j := 2) (u := .map (some M)) rfl
    have hSl := KSr.lt
    clear KSr
    by_cases hlt : k < n0
    · obtain ⟨b, off, x, rfl, _, _, hz, hc⟩ := rd_elem TNode.len HRw.out HL.out hlt
      have c0' : wr.cell? ⟨b, off + k * 5, none⟩ = _ := hc 0 _ rfl
      have c1' := hc 1 _ rfl
      have c2' := hc 2 _ rfl
      have c3' := hc 3 _ rfl
      have c4' := hc 4 _ rfl
      have hbl : b < wr.heap.size := World.block_lt_of_cell? wr _ c0'
      have HE2 := Lib.hid (HG.out k x hz)
      have WX := Lib.hid (node_wf b0.out hz).1
      have HLk := Lib.hid ((HMr.out.alloc_ (.cells #[.int .i64 x.f0, .int .i64 x.f1, .int .i64 x.f2, .int .i64 x.f3, .int .i64 x.f4] 54)).look Try.underlying60 x.f0 WX.out)
      have hlk := HLk.out
      clear hz hc
      cases hs : mLook l0 l1 a2 x.f0 with
      | true =>
        rw [hs] at hlk
        have H2 := Lib.hid (by have := HE2.out; rwa [if_pos hs] at this)
        clear HE2 hs HLk
        go_wp2_with (at_builtin; refine wp_app_lit rfl _ _ _ rfl (w1.heap.size + 1) 54 (.agg #[.int .i64 0, .int .i64 0, .int .i64 0, .int .i64 0, .int .i64 0]) 5 40 Try.underlying25 (by kernel_rfl) rfl (by decide) _ _ _ rfl (HO.out.alloc _) #[.int .i64 x.f0, .int .i64 x.f1, .int .i64 x.f2, .int .i64 x.f3, .int .i64 x.f4] 1 1 _ rfl (by simp) rfl (by intro u hu; simp at hu; rcases hu with rfl | rfl | rfl | rfl | rfl <;> rfl) (by have := HN.out k; unfold maxLen; omega) (by have := HN.out k; omega) (by simp; omega) ?_; intro v1 w3 ho1 hb3)
        have HO3 := Lib.hid (show w3.ownsRow (w1.heap.size + 1) 54 5 v1 (mSeenTo l0 l1 a2 (k + 1)).length (cNode (mSeenTo l0 l1 a2 (k + 1))) by rw [H2.out]; simpa [cNode, List.flatMap_append, TNode.cells] using ho1)
        have HB3 := Lib.hid ((HB.out.alloc (by simpa using hBs) (.cells #[.int .i64 x.f0, .int .i64 x.f1, .int .i64 x.f2, .int .i64 x.f3, .int .i64 x.f4] 54)).trans hb3)
        clear ho1 hb3
        go_wp2_with fail
        go_roundg (n0 - (k + 1))
        case measure => omega
        case rel => exact ⟨k + 1, by omega, by omega, by go_num, HO3, HB3⟩
      | false =>
        rw [hs] at hlk
        have H2 := Lib.hid (by have := HE2.out; rwa [if_neg (by rw [hs]; decide)] at this)
        clear HE2 hs HLk
        go_wp2_with fail
        go_roundg (n0 - (k + 1))
        case measure => omega
        case rel => exact ⟨k + 1, by omega, by omega, by go_num, by rw [H2.out]; exact Lib.hid (HO.out.alloc _), Lib.hid (HB.out.alloc (by simpa using hBs) _)⟩
    · obtain rfl : k = n0 := by omega
      go_wp2_with fail
      go_ret
      rw [HE.out]
      exact makes_of_own (own_base HO.out (by have := HB1.out.size; omega)) ((HB1.out.alloc HB1.out.size _).trans (HB.out.mono (by have := HB1.out.size; omega)))
end Go.Proofs.Ytomoigbhikihfaa
