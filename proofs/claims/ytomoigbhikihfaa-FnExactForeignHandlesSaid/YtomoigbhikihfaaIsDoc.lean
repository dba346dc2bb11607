/- IsDocument, of the program and of the model. -/
import Derived.Test.YtomoigbhikihfaaPage
import Derived.IntWalk
namespace Go.Proofs.Ytomoigbhikihfaa
open Go Go.ChangeShapes Go.WideShapes Go.ChangeAt Go.RowKit Go.Lib
set_option linter.unusedVariables false
set_option maxRecDepth 100000

def valAt (x : TNode) : Bool := inR x.f2 0 9 && inR x.f3 0 999 && inR x.f4 0 5
/-- Whether a node stands rightly behind those before it. -/
def fitAt (l : List TNode) (k : Nat) (x : TNode) : Bool :=
  if k = 0 then x.f0 == 0 && x.f1 == -1 else (match l[k - 1]? with | some y => decide (y.f0 < x.f0) | none => false) && (idx (l.take k) x.f1).isSome
def docAt (l : List TNode) (i : Nat) : Bool := match l[i]? with | some x => fitAt l i x && valAt x | none => false
def docTo (l : List TNode) (k : Nat) : Bool := (List.range k).all (docAt l)
def mIsDoc (l : List TNode) : Bool := inR l.length 1 16 && docTo l l.length
theorem docTo_snoc (l : List TNode) (k : Nat) : docTo l (k + 1) = (docTo l k && docAt l k) := by
  unfold docTo
  rw [List.range_succ, List.all_append]; simp
theorem docTo_no {l : List TNode} {k n : Nat} (h : docAt l k = false) (hk : k < n) : docTo l n = false := by
  unfold docTo
  rw [List.all_eq_false]
  exact ⟨k, List.mem_range.2 hk, by simp [h]⟩
theorem docAt_some {l : List TNode} {k : Nat} {x : TNode} (h : l[k]? = some x) : docAt l k = (fitAt l k x && valAt x) := by unfold docAt; rw [h]
theorem isDoc_no {l : List TNode} {k : Nat} {x : TNode} (h : l[k]? = some x) (hf : (fitAt l k x && valAt x) = false) : mIsDoc l = false := by
  unfold mIsDoc
  rw [docTo_no (k := k) (by rw [docAt_some h]; exact hf) (List.getElem?_eq_some_iff.1 h).1]; simp
theorem idx_take_some {l : List TNode} {id p : Int} (k : Nat) (hk : k ≤ l.length) (h : idx l id = some p) : (idx (l.take k) id).isSome = decide (p < k) := by
  have hs : l = l.take k ++ l.drop k := (List.take_append_drop _ _).symm
  have hl : (l.take k).length = k := by rw [List.length_take]; omega
  unfold idx at h ⊢
  rw [hs, List.findIdx?_append, hl] at h
  cases hf : (l.take k).findIdx? (fun x => x.f0 == id) with
  | some i =>
    rw [hf] at h
    have hi := (List.findIdx?_eq_some_iff_getElem.1 hf).1
    simp at h
    subst h
    simp; omega
  | none =>
    rw [hf] at h
    simp at h
    obtain ⟨j, hj, hp⟩ := h
    simp
    omega
theorem idx_take_none {l : List TNode} {id : Int} (k : Nat) (h : idx l id = none) : (idx (l.take k) id).isSome = false := by
  have hs : l = l.take k ++ l.drop k := (List.take_append_drop _ _).symm
  unfold idx at h ⊢
  rw [hs, List.findIdx?_append] at h
  cases hf : (l.take k).findIdx? (fun x => x.f0 == id) with
  | some i => rw [hf] at h; simp at h
  | none => rfl
theorem has_values (x : TNode) (w : World) :
    Calls Try.prog 82 #[.agg #[.int .i64 x.f0, .int .i64 x.f1, .int .i64 x.f2, .int .i64 x.f3, .int .i64 x.f4]] w (Says (.bool (valAt x)) w) := by
  by_cases h0 : inR x.f2 0 9 = true
  · skip
    by_cases h1 : inR x.f3 0 999 = true
    · skip
      by_cases h2 : inR x.f4 0 5 = true
      · skip
        have HE := Lib.hid (show valAt x = true by simp [valAt, h0, h1, h2])
        go_enter Try.func82, Try.ntmps82
        go_wp2_with (first | (go_at_call 68; refine (impl_in _ _ _ _).mono ?_; rintro e w1 ⟨rfl, rfl⟩))
        go_ret
        exact ⟨by rw [HE.out]; rfl, by repeat (first | exact Below.refl _ _ | (refine Below.alloc ?_ (by simp <;> omega) _) | (refine below_dN ?_ _))⟩
      · have h2 : inR x.f4 0 5 = false := by simpa using h2
        have HE := Lib.hid (show valAt x = false by simp [valAt, h0, h1, h2])
        go_enter Try.func82, Try.ntmps82
        go_wp2_with (first | (go_at_call 68; refine (impl_in _ _ _ _).mono ?_; rintro e w1 ⟨rfl, rfl⟩))
        go_ret
        exact ⟨by rw [HE.out]; rfl, by repeat (first | exact Below.refl _ _ | (refine Below.alloc ?_ (by simp <;> omega) _) | (refine below_dN ?_ _))⟩
    · have h1 : inR x.f3 0 999 = false := by simpa using h1
      have HE := Lib.hid (show valAt x = false by simp [valAt, h0, h1])
      go_enter Try.func82, Try.ntmps82
      go_wp2_with (first | (go_at_call 68; refine (impl_in _ _ _ _).mono ?_; rintro e w1 ⟨rfl, rfl⟩))
      go_ret
      exact ⟨by rw [HE.out]; rfl, by repeat (first | exact Below.refl _ _ | (refine Below.alloc ?_ (by simp <;> omega) _) | (refine below_dN ?_ _))⟩
  · have h0 : inR x.f2 0 9 = false := by simpa using h0
    have HE := Lib.hid (show valAt x = false by simp [valAt, h0])
    go_enter Try.func82, Try.ntmps82
    go_wp2_with (first | (go_at_call 68; refine (impl_in _ _ _ _).mono ?_; rintro e w1 ⟨rfl, rfl⟩))
    go_ret
    exact ⟨by rw [HE.out]; rfl, by repeat (first | exact Below.refl _ _ | (refine Below.alloc ?_ (by simp <;> omega) _) | (refine below_dN ?_ _))⟩
theorem fits_at (l : List TNode) (A : Option Addr) (n c lo hi B : Nat) (k : Nat) (x : TNode) (w : World) (hn : n ≤ 17179869184) (hr : Rd w lo hi 5 A n (cNode l)) (hok : Hid (cNodeOk l)) (hM : MapAt w B n (idx l)) (hk : k < n) (hx : l[k]? = some x) :
    Calls Try.prog 81 #[.agg #[.slice A n c, .map (some B)], .int .i64 (k : Int)] w (Says (.bool (fitAt l k x)) w) := by
  have HL := Lib.hid (rd_len TNode.len hr (by decide))
  have HM := Lib.hid hM
  have HW := Lib.hid (node_wf hok.out hx).2
  obtain ⟨b, off, x', rfl, _, _, hz, hc⟩ := rd_elem TNode.len hr HL.out hk
  obtain rfl : x = x' := Option.some.inj (hx.symm.trans hz)
  have c0 : w.cell? ⟨b, off + k * 5, none⟩ = _ := hc 0 _ rfl
  have hbl : b < w.heap.size := World.block_lt_of_cell? w _ c0
  have c1 := hc 1 _ rfl
  have c2 := hc 2 _ rfl
  have c3 := hc 3 _ rfl
  have c4 := hc 4 _ rfl
  have HR := Lib.hid hr
  have HX := Lib.hid hx
  clear hM hr hx hz hc
  by_cases h0 : k = 0
  · have g0 : ((k : Int) == 0) = true := by simp; omega
    have H0 := Lib.hid h0
    clear h0
    by_cases e0 : (x.f0 == 0) = true
    · by_cases e1 : (x.f1 == -1) = true
      · have HE := Lib.hid (show fitAt l k x = true by simp [fitAt, H0.out, e0, e1])
        go_enter Try.func81, Try.ntmps81
        go_wp2_with fail
        go_ret
        exact ⟨by rw [HE.out]; rfl, by repeat (first | exact Below.refl _ _ | (refine Below.alloc ?_ (by simp <;> omega) _) | (refine below_dN ?_ _))⟩
      · have e1 : (x.f1 == -1) = false := by simpa using e1
        have HE := Lib.hid (show fitAt l k x = false by simp [fitAt, H0.out, e1])
        go_enter Try.func81, Try.ntmps81
        go_wp2_with fail
        go_ret
        exact ⟨by rw [HE.out]; rfl, by repeat (first | exact Below.refl _ _ | (refine Below.alloc ?_ (by simp <;> omega) _) | (refine below_dN ?_ _))⟩
    · have e0 : (x.f0 == 0) = false := by simpa using e0
      have HE := Lib.hid (show fitAt l k x = false by simp [fitAt, H0.out, e0])
      go_enter Try.func81, Try.ntmps81
      go_wp2_with fail
      go_ret
      exact ⟨by rw [HE.out]; rfl, by repeat (first | exact Below.refl _ _ | (refine Below.alloc ?_ (by simp <;> omega) _) | (refine below_dN ?_ _))⟩
  · obtain ⟨b2, off2, y, hA2, _, _, hzy, hcy⟩ := rd_elem TNode.len HR.out HL.out (show k - 1 < n by omega)
    injection hA2 with hA2
    injection hA2 with hb2 ho2 _
    subst hb2
    subst ho2
    have d0 : w.cell? ⟨b, off + (k - 1) * 5, none⟩ = _ := hcy 0 _ rfl
    have g0 : ((k : Int) == 0) = false := by simp; omega
    have gk : (k : Int) - 1 = ((k - 1 : Nat) : Int) := by omega
    have hk1 : k - 1 < n := by omega
    have HY := Lib.hid hzy
    have HF := Lib.hid (show fitAt l k x = (decide (y.f0 < x.f0) && (idx (l.take k) x.f1).isSome) by unfold fitAt; rw [if_neg h0, HY.out])
    clear hzy hcy
    cases hi : idx l x.f1 with
    | none =>
      have HE := Lib.hid (show fitAt l k x = false by rw [HF.out, idx_take_none k hi]; simp)
      have h1 : (idx l x.f1).isSome = false := by rw [hi]; rfl
      clear hi HF
      by_cases hg : y.f0 < x.f0
      · have gg : decide (y.f0 < x.f0) = true := by simpa using hg
        go_enter Try.func81, Try.ntmps81
        go_wp2_with (at_lookup; refine wp_look_ok rfl _ _ _ rfl Try.underlying57 B n _ rfl ((HM.out.alloc_ _).alloc_ _) x.f1 rfl HW.out ?_)
        go_quiet (fail)
        go_wp2_with fail
        go_ret
        exact ⟨by rw [HE.out]; rfl, by repeat (first | exact Below.refl _ _ | (refine Below.alloc ?_ (by simp <;> omega) _) | (refine below_dN ?_ _))⟩
      · have gg : decide (y.f0 < x.f0) = false := by simpa using hg
        go_enter Try.func81, Try.ntmps81
        go_wp2_with (at_lookup; refine wp_look_ok rfl _ _ _ rfl Try.underlying57 B n _ rfl ((HM.out.alloc_ _).alloc_ _) x.f1 rfl HW.out ?_)
        go_quiet (fail)
        go_wp2_with fail
        go_ret
        exact ⟨by rw [HE.out]; rfl, by repeat (first | exact Below.refl _ _ | (refine Below.alloc ?_ (by simp <;> omega) _) | (refine below_dN ?_ _))⟩
    | some p =>
      have HT := Lib.hid (idx_take_some k (by rw [HL.out]; omega) hi)
      have h1 : (idx l x.f1).isSome = true := by rw [hi]; rfl
      have h2 : (idx l x.f1).getD 0 = p := by rw [hi]; rfl
      clear hi
      by_cases hg : y.f0 < x.f0
      · by_cases hp : p < (k : Int)
        · have HE := Lib.hid (show fitAt l k x = true by rw [HF.out, HT.out]; simp [hg, hp])
          have gp : decide (p < (k : Int)) = true := by simpa using hp
          go_enter Try.func81, Try.ntmps81
          go_wp2_with (at_lookup; refine wp_look_ok rfl _ _ _ rfl Try.underlying57 B n _ rfl ((HM.out.alloc_ _).alloc_ _) x.f1 rfl HW.out ?_)
          go_quiet (fail)
          go_wp2_with fail
          go_ret
          exact ⟨by rw [HE.out]; rfl, by repeat (first | exact Below.refl _ _ | (refine Below.alloc ?_ (by simp <;> omega) _) | (refine below_dN ?_ _))⟩
        · have HE := Lib.hid (show fitAt l k x = false by rw [HF.out, HT.out]; simp [hp])
          have gp : decide (p < (k : Int)) = false := by simpa using hp
          go_enter Try.func81, Try.ntmps81
          go_wp2_with (at_lookup; refine wp_look_ok rfl _ _ _ rfl Try.underlying57 B n _ rfl ((HM.out.alloc_ _).alloc_ _) x.f1 rfl HW.out ?_)
          go_quiet (fail)
          go_wp2_with fail
          go_ret
          exact ⟨by rw [HE.out]; rfl, by repeat (first | exact Below.refl _ _ | (refine Below.alloc ?_ (by simp <;> omega) _) | (refine below_dN ?_ _))⟩
      · have HE := Lib.hid (show fitAt l k x = false by rw [HF.out]; simp [hg])
        have gg : decide (y.f0 < x.f0) = false := by simpa using hg
        go_enter Try.func81, Try.ntmps81
        go_wp2_with (at_lookup; refine wp_look_ok rfl _ _ _ rfl Try.underlying57 B n _ rfl ((HM.out.alloc_ _).alloc_ _) x.f1 rfl HW.out ?_)
        go_quiet (fail)
        go_wp2_with fail
        go_ret
        exact ⟨by rw [HE.out]; rfl, by repeat (first | exact Below.refl _ _ | (refine Below.alloc ?_ (by simp <;> omega) _) | (refine below_dN ?_ _))⟩
theorem impl_IsDocument (l0 : List TNode) (A0 : Option Addr) (n0 c0 lo0 hi0 : Nat) (w : World) (h0 : n0 ≤ 17179869184) (r0 : Rd w lo0 hi0 5 A0 n0 (cNode l0)) (b0 : Hid (cNodeOk l0)) :
    Calls Try.prog 66 #[.slice A0 n0 c0] w (Says (.bool (mIsDoc l0)) w) := by
  have HL := Lib.hid (rd_len TNode.len r0 (by decide))
  have HR := Lib.hid r0
  clear r0
  by_cases hlen : inR (n0 : Int) 1 16 = true
  · have H16 := inR_true.1 hlen
    have hn16 : n0 ≤ 16 := by omega
    clear H16
    go_enter Try.func66, Try.ntmps66
    go_wp2_with (go_at_call 68; refine (impl_in _ _ _ _).mono ?_; rintro e w1 ⟨rfl, rfl⟩)
    refine (newPage_any l0 A0 n0 c0 lo0 hi0 _ (by omega) HR.out b0).mono ?_
    rintro e w1 ⟨B, rfl, hB, hM, hb⟩
    have HM := Lib.hid hM
    have HB := Lib.hid hb
    have HS := Lib.hid hb.size
    have HMl := Lib.hid hM.lt
    clear hM hb
    go_wp2_with fail
    go_loopw [14] (fun i wr => ∃ k : Nat, k ≤ n0 ∧ i = .int .i64 k ∧ docTo l0 k = true ∧ MapAt wr B n0 (idx l0) ∧ BoxAt wr w1.heap.size 59 #[.slice A0 n0 c0, .map (some B)] ∧ Below w.heap.size w wr) (fun i _ => n0 - (intOf i).toNat)
    case atStart => exact ⟨0, Nat.zero_le _, rfl, rfl, HM.out.alloc_ _, box_new _ _ _, HB.out.alloc HS.out _⟩
    case round =>
      obtain ⟨k, hk, rfl, hd, hM, hX, hb⟩ := hrel
      have HB2 := Lib.hid hb
      have HM2 := Lib.hid hM
      have HX2 := Lib.hid hX
      have HD := Lib.hid hd
      have HS2 := Lib.hid hb.size
      have hxl : w1.heap.size < wr.heap.size := hX.lt
      have p0 := hX.at_ (j := 0) (u := .slice A0 n0 c0) rfl
      have p1 := hX.at_ (j := 1) (u := .map (some B)) rfl
      by_cases hlt : k < n0
      · have HRw := Lib.hid (HR.out.new hb)
        obtain ⟨b, off, x, hA, _, _, hz, hc⟩ := rd_elem TNode.len HRw.out HL.out hlt
        subst hA
        have c0 : wr.cell? ⟨b, off + k * 5, none⟩ = _ := hc 0 _ rfl
        have c1 := hc 1 _ rfl
        have c2 := hc 2 _ rfl
        have c3 := hc 3 _ rfl
        have c4 := hc 4 _ rfl
        have HZ := Lib.hid hz
        clear hd hM hX hb hz hc
        by_cases hf : fitAt l0 k x = true
        · by_cases hv : valAt x = true
          · have HD2 := Lib.hid (show docTo l0 (k + 1) = true by rw [docTo_snoc, HD.out, docAt_some HZ.out, hf, hv]; rfl)
            go_wp2_with fail
            refine (fits_at l0 _ n0 _ lo0 hi0 B k x _ h0 (HRw.out.alloc _) b0 (HM2.out.alloc_ _) hlt HZ.out).mono ?_
            rintro e w2 ⟨rfl, hb2⟩
            have HM3 := Lib.hid ((HM2.out.alloc_ _).new hb2)
            have HX3 := Lib.hid ((HX2.out.alloc_ _).new hb2)
            have HB3 := Lib.hid (below_trans (HB2.out.alloc HS2.out (.cells #[.int .i64 x.f0, .int .i64 x.f1, .int .i64 x.f2, .int .i64 x.f3, .int .i64 x.f4] 54)) hb2 (Nat.le_refl _))
            have KX := (box_new wr 54 #[.int .i64 x.f0, .int .i64 x.f1, .int .i64 x.f2, .int .i64 x.f3, .int .i64 x.f4]).new hb2
            have k0 := KX.at_ (j := 0) rfl
            have k1 := KX.at_ (j := 1) rfl
            have k2 := KX.at_ (j := 2) rfl
            have k3 := KX.at_ (j := 3) rfl
            have k4 := KX.at_ (j := 4) rfl
            clear hb2 KX c0 c1 c2 c3 c4 p0 p1
            go_wp2_with fail
            refine (has_values x _).mono ?_
            rintro e w3 ⟨rfl, hb3⟩
            have HM4 := Lib.hid (HM3.out.new hb3)
            have HX4 := Lib.hid (HX3.out.new hb3)
            have HB4 := Lib.hid (below_trans HB3.out hb3 (Nat.le_refl _))
            clear hb3
            go_wp2_with fail
            go_roundw
            case rel => exact ⟨k + 1, by omega, by go_num, HD2.out, HM4.out, HX4.out, HB4.out⟩
            case measure => simp [intOf]; omega
          · have hv : valAt x = false := by simpa using hv
            have HE := Lib.hid (isDoc_no HZ.out (by rw [hv]; simp))
            go_wp2_with fail
            refine (fits_at l0 _ n0 _ lo0 hi0 B k x _ h0 (HRw.out.alloc _) b0 (HM2.out.alloc_ _) hlt HZ.out).mono ?_
            rintro e w2 ⟨rfl, hb2⟩
            have HM3 := Lib.hid ((HM2.out.alloc_ _).new hb2)
            have HX3 := Lib.hid ((HX2.out.alloc_ _).new hb2)
            have HB3 := Lib.hid (below_trans (HB2.out.alloc HS2.out (.cells #[.int .i64 x.f0, .int .i64 x.f1, .int .i64 x.f2, .int .i64 x.f3, .int .i64 x.f4] 54)) hb2 (Nat.le_refl _))
            have KX := (box_new wr 54 #[.int .i64 x.f0, .int .i64 x.f1, .int .i64 x.f2, .int .i64 x.f3, .int .i64 x.f4]).new hb2
            have k0 := KX.at_ (j := 0) rfl
            have k1 := KX.at_ (j := 1) rfl
            have k2 := KX.at_ (j := 2) rfl
            have k3 := KX.at_ (j := 3) rfl
            have k4 := KX.at_ (j := 4) rfl
            clear hb2 KX c0 c1 c2 c3 c4 p0 p1
            go_wp2_with fail
            refine (has_values x _).mono ?_
            rintro e w3 ⟨rfl, hb3⟩
            have HB4 := Lib.hid (below_trans HB3.out hb3 (Nat.le_refl _))
            clear hb3
            go_wp2_with fail
            go_ret
            exact ⟨by rw [HE.out]; rfl, HB4.out⟩
        · have hf : fitAt l0 k x = false := by simpa using hf
          have HE := Lib.hid (isDoc_no HZ.out (by rw [hf]; simp))
          go_wp2_with fail
          refine (fits_at l0 _ n0 _ lo0 hi0 B k x _ h0 (HRw.out.alloc _) b0 (HM2.out.alloc_ _) hlt HZ.out).mono ?_
          rintro e w2 ⟨rfl, hb2⟩
          have HM3 := Lib.hid ((HM2.out.alloc_ _).new hb2)
          have HX3 := Lib.hid ((HX2.out.alloc_ _).new hb2)
          have HB3 := Lib.hid (below_trans (HB2.out.alloc HS2.out (.cells #[.int .i64 x.f0, .int .i64 x.f1, .int .i64 x.f2, .int .i64 x.f3, .int .i64 x.f4] 54)) hb2 (Nat.le_refl _))
          have KX := (box_new wr 54 #[.int .i64 x.f0, .int .i64 x.f1, .int .i64 x.f2, .int .i64 x.f3, .int .i64 x.f4]).new hb2
          have k0 := KX.at_ (j := 0) rfl
          have k1 := KX.at_ (j := 1) rfl
          have k2 := KX.at_ (j := 2) rfl
          have k3 := KX.at_ (j := 3) rfl
          have k4 := KX.at_ (j := 4) rfl
          clear hb2 KX c0 c1 c2 c3 c4 p0 p1
          go_wp2_with fail
          go_ret
          exact ⟨by rw [HE.out]; rfl, HB3.out⟩
      · obtain rfl : k = n0 := by omega
        have HE := Lib.hid (show mIsDoc l0 = true by unfold mIsDoc; rw [HL.out, hlen, hd]; rfl)
        clear hd hM hX hb
        go_wp2_with fail
        go_ret
        exact ⟨by rw [HE.out]; rfl, HB2.out⟩
  · have hlen : inR (n0 : Int) 1 16 = false := by simpa using hlen
    have HE := Lib.hid (show mIsDoc l0 = false by unfold mIsDoc; rw [HL.out, hlen]; rfl)
    go_enter Try.func66, Try.ntmps66
    go_wp2_with (go_at_call 68; refine (impl_in _ _ _ _).mono ?_; rintro e w1 ⟨rfl, rfl⟩)
    go_ret
    exact ⟨by rw [HE.out]; rfl, Below.refl _ _⟩
theorem take_rd {w : World} {lo hi n c : Nat} {A : Option Addr} {l : List TNode} (h : Rd w lo hi 5 A n (cNode l)) {k : Nat} (hk : k ≤ n) (hl : l.length = n) : Rd w lo hi 5 A k (cNode (l.take k)) := by
  refine ⟨by rw [flat_len TNode.len, List.length_take]; congr 1; omega, fun h0 => ?_⟩
  obtain ⟨b, off, hA, h1, h2, hc⟩ := h.2 (by omega)
  refine ⟨b, off, hA, h1, h2, fun j u hu => hc j u ?_⟩
  have hu : ((l.take k).flatMap TNode.cells)[j]? = some u := hu
  rw [flat_take TNode.len, List.getElem?_take] at hu
  split at hu
  · exact hu
  · cases hu
theorem mNodeOf_neg {l : List TNode} {id : Int} (h : (idx l id).isSome = false) : mNodeOf l id < 0 := by
  unfold mNodeOf
  cases hi : idx l id with
  | some v => rw [hi] at h; cases h
  | none => decide
theorem mNodeOf_pos {l : List TNode} {id : Int} (h : (idx l id).isSome = true) : 0 ≤ mNodeOf l id := by
  unfold mNodeOf
  cases hi : idx l id with
  | none => rw [hi] at h; cases h
  | some v => obtain ⟨i, _, hv, _⟩ := idx_lt hi; simp only [hv]; omega
set_option maxHeartbeats 2000000 in
theorem spec_IsDocument' (l0 : List TNode) (A0 : Option Addr) (n0 c0' lo0 hi0 : Nat) (w : World) (h0 : n0 ≤ 17179869184) (hcap : n0 ≤ c0') (r0 : Rd w lo0 hi0 5 A0 n0 (cNode l0)) :
    Calls Try.prog 40 #[.slice A0 n0 c0'] w (Says (.bool (mIsDoc l0)) w) := by
  have HL := Lib.hid (rd_len TNode.len r0 (by decide))
  have HR := Lib.hid r0
  clear r0
  by_cases hlen : inR (n0 : Int) 1 16 = true
  · have H16 := inR_true.1 hlen
    have hn16 : n0 ≤ 16 := by omega
    have hn1 : 0 < n0 := by omega
    clear H16
    obtain ⟨b, off, y0, rfl, _, _, hz0, hc0⟩ := rd_elem TNode.len HR.out HL.out hn1
    have z0 : w.cell? ⟨b, off, none⟩ = some (.int .i64 y0.f0) := by simpa using hc0 0 _ rfl
    have z1 : w.cell? ⟨b, off + 1, none⟩ = some (.int .i64 y0.f1) := by simpa using hc0 1 _ rfl
    have HZ0 := Lib.hid hz0
    clear hz0 hc0
    by_cases e0 : (y0.f0 != 0) = true
    · have HE := Lib.hid (isDoc_no HZ0.out (by have : (y0.f0 == 0) = false := by simpa using e0
                                               simp [fitAt, this]))
      go_enter Try.func40, Try.ntmps40
      go_wp2_with (go_at_call 60; refine (spec_in _ _ _ _).mono ?_; rintro e w1 ⟨rfl, rfl⟩)
      go_ret
      exact ⟨by rw [HE.out]; rfl, Below.refl _ _⟩
    · have e0 : (y0.f0 != 0) = false := by simpa using e0
      by_cases e1 : (y0.f1 != -1) = true
      · have HE := Lib.hid (isDoc_no HZ0.out (by have : (y0.f1 == -1) = false := by simpa using e1
                                                 simp [fitAt, this]))
        go_enter Try.func40, Try.ntmps40
        go_wp2_with (go_at_call 60; refine (spec_in _ _ _ _).mono ?_; rintro e w1 ⟨rfl, rfl⟩)
        go_ret
        exact ⟨by rw [HE.out]; rfl, Below.refl _ _⟩
      · have e1 : (y0.f1 != -1) = false := by simpa using e1
        have HF0 := Lib.hid (show fitAt l0 0 y0 = true by
          have q0 : (y0.f0 == 0) = true := by simpa using e0
          have q1 : (y0.f1 == -1) = true := by simpa using e1
          simp [fitAt, q0, q1])
        go_enter Try.func40, Try.ntmps40
        go_wp2_with (go_at_call 60; refine (spec_in _ _ _ _).mono ?_; rintro e w1 ⟨rfl, rfl⟩)
        go_loopw [3] (fun i wr => ∃ k : Nat, k ≤ n0 ∧ i = .int .i64 k ∧ docTo l0 k = true ∧ Below w.heap.size w wr) (fun i _ => n0 - (intOf i).toNat)
        case atStart => exact ⟨0, Nat.zero_le _, rfl, rfl, Below.refl _ _⟩
        case round =>
          obtain ⟨k, hk, rfl, hd, hb⟩ := hrel
          have HD := Lib.hid hd
          have HB := Lib.hid hb
          have HRw := Lib.hid (HR.out.new hb)
          clear hd hb e0 e1 z0 z1
          by_cases hlt : k < n0
          · obtain ⟨b', off', x, hA, _, _, hz, hc⟩ := rd_elem TNode.len HRw.out HL.out hlt
            injection hA with hA
            injection hA with hA1 hA2 _
            subst hA1
            subst hA2
            have c0 : wr.cell? ⟨b, off + k * 5, none⟩ = _ := hc 0 _ rfl
            have c1 := hc 1 _ rfl
            have c2 := hc 2 _ rfl
            have c3 := hc 3 _ rfl
            have c4 := hc 4 _ rfl
            have HZ := Lib.hid hz
            clear hc
            by_cases hk0 : k = 0
            · have HFit := Lib.hid (show fitAt l0 k x = true by
                subst hk0
                obtain rfl : y0 = x := Option.some.inj (HZ0.out.symm.trans hz)
                exact HF0.out)
              have g0 : decide (0 < k) = false := by simp; omega
              clear hk0 hz
              by_cases h2 : inR x.f2 0 9 = true
              · by_cases h3 : inR x.f3 0 999 = true
                · by_cases h4 : inR x.f4 0 5 = true
                  · have HD2 := Lib.hid (show docTo l0 (k + 1) = true by rw [docTo_snoc, HD.out, docAt_some HZ.out, HFit.out]; simp [valAt, h2, h3, h4])
                    go_wp2_with fail
                    go_quiet (fail)
                    go_wp2_with (go_at_call 60; refine (spec_in _ _ _ _).mono ?_; rintro e w1 ⟨rfl, rfl⟩)
                    go_roundw
                    case rel => exact ⟨k + 1, by omega, by go_num, HD2.out, by first | exact below_dN HB.out _ | exact HB.out⟩
                    case measure => simp [intOf]; omega
                  · have h4 : inR x.f4 0 5 = false := by simpa using h4
                    have HE := Lib.hid (isDoc_no HZ.out (by simp [valAt, h4]))
                    go_wp2_with fail
                    go_quiet (fail)
                    go_wp2_with (go_at_call 60; refine (spec_in _ _ _ _).mono ?_; rintro e w1 ⟨rfl, rfl⟩)
                    go_ret
                    exact ⟨by rw [HE.out]; rfl, by first | exact below_dN HB.out _ | exact HB.out⟩
                · have h3 : inR x.f3 0 999 = false := by simpa using h3
                  have HE := Lib.hid (isDoc_no HZ.out (by simp [valAt, h3]))
                  go_wp2_with fail
                  go_quiet (fail)
                  go_wp2_with (go_at_call 60; refine (spec_in _ _ _ _).mono ?_; rintro e w1 ⟨rfl, rfl⟩)
                  go_ret
                  exact ⟨by rw [HE.out]; rfl, by first | exact below_dN HB.out _ | exact HB.out⟩
              · have h2 : inR x.f2 0 9 = false := by simpa using h2
                have HE := Lib.hid (isDoc_no HZ.out (by simp [valAt, h2]))
                go_wp2_with fail
                go_quiet (fail)
                go_wp2_with (go_at_call 60; refine (spec_in _ _ _ _).mono ?_; rintro e w1 ⟨rfl, rfl⟩)
                go_ret
                exact ⟨by rw [HE.out]; rfl, by first | exact below_dN HB.out _ | exact HB.out⟩
            · have g0 : 0 < k := by omega
              obtain ⟨b2, off2, y, hA2, _, _, hzy, hcy⟩ := rd_elem TNode.len HRw.out HL.out (show k - 1 < n0 by omega)
              injection hA2 with hA2
              injection hA2 with hb2 ho2 _
              subst hb2
              subst ho2
              have d0 : wr.cell? ⟨b, off + (k - 1) * 5, none⟩ = _ := hcy 0 _ rfl
              have gk : (k : Int) - 1 = ((k - 1 : Nat) : Int) := by omega
              have gw : IntKind.i64.wrap ((k - 1 : Nat) : Int) = ((k - 1 : Nat) : Int) := IntWalk.i64_in _ (by omega)
              have hk1 : k - 1 < n0 := by omega
              have hkc : k ≤ c0' := by omega
              have HP := Lib.hid (take_rd (c := c0') HRw.out (k := k) (by omega) HL.out)
              have HF := Lib.hid (show fitAt l0 k x = (decide (y.f0 < x.f0) && (idx (l0.take k) x.f1).isSome) by unfold fitAt; rw [if_neg hk0, hzy])
              clear hk0 hz hzy hcy
              by_cases hg : y.f0 < x.f0
              · have gg : decide (x.f0 ≤ y.f0) = false := by simp; omega
                by_cases hi : (idx (l0.take k) x.f1).isSome = true
                · have gn : decide (mNodeOf (l0.take k) x.f1 < 0) = false := by have := mNodeOf_pos hi; simp; omega
                  have HFit := Lib.hid (show fitAt l0 k x = true by rw [HF.out, hi]; simp [hg])
                  clear hi hg
                  by_cases h2 : inR x.f2 0 9 = true
                  · by_cases h3 : inR x.f3 0 999 = true
                    · by_cases h4 : inR x.f4 0 5 = true
                      · have HD2 := Lib.hid (show docTo l0 (k + 1) = true by rw [docTo_snoc, HD.out, docAt_some HZ.out, HFit.out]; simp [valAt, h2, h3, h4])
                        go_wp2_with fail
                        go_quiet ((go_at_call 45; exact Calls.quiet_of_same ((spec_NodeOf' (l0.take k) _ k c0' lo0 hi0 x.f1 _ (by omega) (HP.out.drewN _)).mono fun _ _ ⟨a, b⟩ => ⟨a, b.symm⟩)))
                        go_wp2_with (go_at_call 60; refine (spec_in _ _ _ _).mono ?_; rintro e w1 ⟨rfl, rfl⟩)
                        go_roundw
                        case rel => exact ⟨k + 1, by omega, by go_num, HD2.out, by first | exact below_dN HB.out _ | exact HB.out⟩
                        case measure => simp [intOf]; omega
                      · have h4 : inR x.f4 0 5 = false := by simpa using h4
                        have HE := Lib.hid (isDoc_no HZ.out (by simp [valAt, h4]))
                        go_wp2_with fail
                        go_quiet ((go_at_call 45; exact Calls.quiet_of_same ((spec_NodeOf' (l0.take k) _ k c0' lo0 hi0 x.f1 _ (by omega) (HP.out.drewN _)).mono fun _ _ ⟨a, b⟩ => ⟨a, b.symm⟩)))
                        go_wp2_with (go_at_call 60; refine (spec_in _ _ _ _).mono ?_; rintro e w1 ⟨rfl, rfl⟩)
                        go_ret
                        exact ⟨by rw [HE.out]; rfl, by first | exact below_dN HB.out _ | exact HB.out⟩
                    · have h3 : inR x.f3 0 999 = false := by simpa using h3
                      have HE := Lib.hid (isDoc_no HZ.out (by simp [valAt, h3]))
                      go_wp2_with fail
                      go_quiet ((go_at_call 45; exact Calls.quiet_of_same ((spec_NodeOf' (l0.take k) _ k c0' lo0 hi0 x.f1 _ (by omega) (HP.out.drewN _)).mono fun _ _ ⟨a, b⟩ => ⟨a, b.symm⟩)))
                      go_wp2_with (go_at_call 60; refine (spec_in _ _ _ _).mono ?_; rintro e w1 ⟨rfl, rfl⟩)
                      go_ret
                      exact ⟨by rw [HE.out]; rfl, by first | exact below_dN HB.out _ | exact HB.out⟩
                  · have h2 : inR x.f2 0 9 = false := by simpa using h2
                    have HE := Lib.hid (isDoc_no HZ.out (by simp [valAt, h2]))
                    go_wp2_with fail
                    go_quiet ((go_at_call 45; exact Calls.quiet_of_same ((spec_NodeOf' (l0.take k) _ k c0' lo0 hi0 x.f1 _ (by omega) (HP.out.drewN _)).mono fun _ _ ⟨a, b⟩ => ⟨a, b.symm⟩)))
                    go_wp2_with (go_at_call 60; refine (spec_in _ _ _ _).mono ?_; rintro e w1 ⟨rfl, rfl⟩)
                    go_ret
                    exact ⟨by rw [HE.out]; rfl, by first | exact below_dN HB.out _ | exact HB.out⟩
                · have hi : (idx (l0.take k) x.f1).isSome = false := by simpa using hi
                  have gn : decide (mNodeOf (l0.take k) x.f1 < 0) = true := by have := mNodeOf_neg hi; simpa using this
                  have HE := Lib.hid (isDoc_no HZ.out (by rw [HF.out, hi]; simp))
                  clear hi hg
                  go_wp2_with fail
                  go_quiet ((go_at_call 45; exact Calls.quiet_of_same ((spec_NodeOf' (l0.take k) _ k c0' lo0 hi0 x.f1 _ (by omega) (HP.out.drewN _)).mono fun _ _ ⟨a, b⟩ => ⟨a, b.symm⟩)))
                  go_wp2_with fail
                  go_ret
                  exact ⟨by rw [HE.out]; rfl, by first | exact below_dN HB.out _ | exact HB.out⟩
              · have gg : decide (x.f0 ≤ y.f0) = true := by simp; omega
                have HE := Lib.hid (isDoc_no HZ.out (by rw [HF.out]; simp [hg]))
                clear hg
                go_wp2_with fail
                go_quiet ((go_at_call 45; exact Calls.quiet_of_same ((spec_NodeOf' (l0.take k) _ k c0' lo0 hi0 x.f1 _ (by omega) (HP.out.drewN _)).mono fun _ _ ⟨a, b⟩ => ⟨a, b.symm⟩)))
                go_wp2_with fail
                go_ret
                exact ⟨by rw [HE.out]; rfl, by first | exact below_dN HB.out _ | exact HB.out⟩
          · obtain rfl : k = n0 := by omega
            have HE := Lib.hid (show mIsDoc l0 = true by unfold mIsDoc; rw [HL.out, hlen, HD.out]; rfl)
            go_wp2_with fail
            go_ret
            exact ⟨by rw [HE.out]; rfl, by first | exact below_dN HB.out _ | exact HB.out⟩
  · have hlen : inR (n0 : Int) 1 16 = false := by simpa using hlen
    have HE := Lib.hid (show mIsDoc l0 = false by unfold mIsDoc; rw [HL.out, hlen]; rfl)
    go_enter Try.func40, Try.ntmps40
    go_wp2_with (go_at_call 60; refine (spec_in _ _ _ _).mono ?_; rintro e w1 ⟨rfl, rfl⟩)
    go_ret
    exact ⟨by rw [HE.out]; rfl, Below.refl _ _⟩
theorem spec_IsDocument (l0 : List TNode) (A0 : Option Addr) (n0 c0 lo0 hi0 : Nat) (w : World) (h0 : n0 ≤ 1048576) (r0 : Rd w lo0 hi0 5 A0 n0 (cNode l0)) (p0 : n0 ≤ c0) (b0 : Hid (cNodeOk l0)) :
    Calls Try.prog 40 #[.slice A0 n0 c0] w (Says (.bool (mIsDoc l0)) w) := spec_IsDocument' l0 A0 n0 c0 lo0 hi0 w (by omega) p0 r0
theorem impl_IsDocumentC (l0 : List TNode) (A0 : Option Addr) (n0 c0 lo0 hi0 : Nat) (w : World) (h0 : n0 ≤ 1048576) (r0 : Rd w lo0 hi0 5 A0 n0 (cNode l0)) (p0 : n0 ≤ c0) (b0 : Hid (cNodeOk l0)) :
    Calls Try.prog 66 #[.slice A0 n0 c0] w (Says (.bool (mIsDoc l0)) w) := impl_IsDocument l0 A0 n0 c0 lo0 hi0 w (by omega) r0 b0
end Go.Proofs.Ytomoigbhikihfaa
