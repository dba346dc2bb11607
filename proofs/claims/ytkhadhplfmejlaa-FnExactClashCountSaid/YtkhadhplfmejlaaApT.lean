/- AppliesTo, of the program and of the model. -/
import Derived.Test.YtkhadhplfmejlaaApplies
import Derived.Test.YtkhadhplfmejlaaFun
import Derived.Test.YtkhadhplfmejlaaSlI
import Derived.Test.YtkhadhplfmejlaaApp
import Derived.Test.YtkhadhplfmejlaaBest
import Derived.Handy
import Derived.Deep.RegionHeld3
import Derived.Deep.LoopGhost
namespace Go.Proofs.Ytkhadhplfmejlaa
open Go Go.ChangeShapes Go.WideShapes Go.ChangeAt Go.RowKit Go.Lib
set_option linter.unusedVariables false
set_option linter.unusedSimpArgs false
set_option maxRecDepth 100000
def rangeI (a : Int) (n : Nat) : List Int := (List.range n).map fun k : Nat => a + (k : Int)
theorem rangeI_len (a : Int) (n : Nat) : (rangeI a n).length = n := by simp [rangeI]
theorem rangeI_get (a : Int) {n k : Nat} (h : k < n) : (rangeI a n)[k]? = some (a + (k : Int)) := by simp [rangeI, h]
theorem rangeI_mem {a x : Int} {n : Nat} (h : x ∈ rangeI a n) : ∃ k : Nat, k < n ∧ x = a + (k : Int) := by
  simp [rangeI] at h
  obtain ⟨k, hk, rfl⟩ := h
  exact ⟨k, hk, rfl⟩
theorem info_intN : (Try.prog.info? 3).map (fun i => (i.zero, i.size, i.bytes)) = some (some (.int .i64 0), 1, 8) := by kernel_rfl
theorem one_intN (z : Int) : ∀ u ∈ (#[Value.int .i64 z]).toList, u.oneCell' = true := by
  intro u hu
  simp only [List.mem_singleton] at hu
  subst hu
  rfl
theorem filt_snoc {α : Type} {p : α → Bool} {l : List α} {k : Nat} {x : α} (h : l[k]? = some x) : (l.take (k + 1)).filter p = if p x = true then (l.take k).filter p ++ [x] else (l.take k).filter p := by
  rw [List.take_add_one, h, Option.toList_some, List.filter_append]
  by_cases hp : p x = true <;> simp [hp]

def mAt (l : List TRule) (q : TRequest) (i : Int) : Bool := match l[i.toNat]? with | some x => mApplies x q | none => false
def mTo (l : List TRule) (q : TRequest) : List Int := (rangeI 0 l.length).filter (mAt l q)
theorem mTo_len (l : List TRule) (q : TRequest) : (mTo l q).length ≤ l.length := Nat.le_trans (List.length_filter_le _ _) (Nat.le_of_eq (rangeI_len _ _))
set_option maxHeartbeats 8000000 in
theorem spec_AppliesTo (l : List TRule) (A : Option Addr) (n c lo hi : Nat) (q : TRequest) (w : World) (hn : n ≤ 1048576) (hr : Rd w lo hi 8 A n (cRule l)) (H : Hid (cRuleOk l)) : Calls Try.prog 59 #[.slice A n c, vReq q] w (Makes 3 1 (mTo l q).length (i64s (mTo l q)) w) := by
  have HL := Lib.hid (rd_len TRule.len hr (by decide))
  have HR := Lib.hid (hr.alloc (.cells #[.int .i64 q.f0, .int .i64 q.f1, .int .i64 q.f2] 43))
  have HBx := Lib.hid (box_new w 43 #[.int .i64 q.f0, .int .i64 q.f1, .int .i64 q.f2])
  have hm : mTo l q = (rangeI 0 n).filter (mAt l q) := by rw [← HL.out]; rfl
  rw [hm]
  clear hr hm
  have HRL := Lib.hid (rangeI_len 0 n)
  have HRG := Lib.hid (fun (k : Nat) (h : k < n) => rangeI_get 0 h)
  generalize rangeI 0 n = L at HRL HRG ⊢
  generalize hp : mAt l q = p
  have HP := Lib.hid (show ∀ (k : Nat) (x : TRule), l[k]? = some x → p (k : Int) = mApplies x q by
    rw [← hp]
    intro k x hx
    simp [mAt, hx])
  clear hp
  have HS0 := Lib.hid (show (w.alloc (.cells #[.int .i64 q.f0, .int .i64 q.f1, .int .i64 q.f2] 43)).heap.size = w.heap.size + 1 by simp)
  go_enter Try.func59, Try.ntmps59
  go_wp2_with fail
  go_loopg [5, 6] n (fun gg v i wr => ∃ k : Nat, k ≤ n ∧ n - k ≤ gg ∧ i = .int .i64 k ∧ wr.ownsRow (w.heap.size + 1) 3 1 v ((L.take k).filter p).length (i64s ((L.take k).filter p)) ∧ Hid (Below (w.heap.size + 1) (w.alloc (.cells #[.int .i64 q.f0, .int .i64 q.f1, .int .i64 q.f2] 43)) wr))
  case atStart => exact ⟨0, Nat.zero_le _, by omega, rfl, (by
    have h0 : ((w.alloc (.cells #[.int .i64 q.f0, .int .i64 q.f1, .int .i64 q.f2] 43)).alloc (.cells #[] 3)).ownsRow (w.heap.size + 1) 3 1 (.slice (some ⟨(w.alloc (.cells #[.int .i64 q.f0, .int .i64 q.f1, .int .i64 q.f2] 43)).heap.size, 0, none⟩) 0 0) 0 ([] : List Value) := World.ownsRow_lit (w.alloc (.cells #[.int .i64 q.f0, .int .i64 q.f1, .int .i64 q.f2] 43)) #[] 0 (Nat.le_of_eq HS0.out.symm) (by unfold maxLen; omega) rfl
    rw [HS0.out] at h0
    exact h0), Lib.hid ((Below.refl _ _).alloc (by simp) _)⟩
  case round =>
    obtain ⟨k, hk, hg, rfl, hown, HB⟩ := hrel
    have HO := Lib.hid hown
    have HS := Lib.hid (show w.heap.size + 1 ≤ wr.heap.size by have := HB.out.size; simp at this; omega)
    clear hown
    have hbw : Below (w.alloc (.cells #[.int .i64 q.f0, .int .i64 q.f1, .int .i64 q.f2] 43)).heap.size (w.alloc (.cells #[.int .i64 q.f0, .int .i64 q.f1, .int .i64 q.f2] 43)) wr := by rw [HS0.out]; exact HB.out
    by_cases hlt : k < n
    · obtain ⟨b, off, x, rfl, _, _, hz, hc⟩ := rd_elem TRule.len (HR.out.new hbw) HL.out hlt
      have c0 : wr.cell? ⟨b, off + k * 8, none⟩ = some (.int .i64 x.f0) := hc 0 _ rfl
      have c1 : wr.cell? ⟨b, off + k * 8 + 1, none⟩ = some (.int .i64 x.f1) := hc 1 _ rfl
      have c2 : wr.cell? ⟨b, off + k * 8 + 2, none⟩ = some (.int .i64 x.f2) := hc 2 _ rfl
      have c3 : wr.cell? ⟨b, off + k * 8 + 3, none⟩ = some (.int .i64 x.f3) := hc 3 _ rfl
      have c4 : wr.cell? ⟨b, off + k * 8 + 4, none⟩ = some (.int .i64 x.f4) := hc 4 _ rfl
      have c5 : wr.cell? ⟨b, off + k * 8 + 5, none⟩ = some (.int .i64 x.f5) := hc 5 _ rfl
      have c6 : wr.cell? ⟨b, off + k * 8 + 6, none⟩ = some (.int .i64 x.f6) := hc 6 _ rfl
      have c7 : wr.cell? ⟨b, off + k * 8 + 7, none⟩ = some (.int .i64 x.f7) := hc 7 _ rfl
      have HX := Lib.hid (HBx.out.new hbw)
      have HN := Lib.hid (Nat.le_trans (List.length_filter_le p (L.take k)) (List.length_take_le _ _))
      have hE := filt_snoc (p := p) (HRG.out k hlt)
      rw [Int.zero_add, HP.out k x hz] at hE
      clear hc hz hbw
      have C0 := fun W => spec_Applies x q W
      have HEt := fun (h : mApplies x q = true) => hE.trans (if_pos h)
      have HEf := fun (h : mApplies x q = false) => hE.trans (if_neg (by rw [h]; decide))
      clear hE
      generalize mApplies x q = r at C0 HEt HEf
      replace C0 := Lib.hid C0
      replace HEt := Lib.hid HEt
      replace HEf := Lib.hid HEf
      go_wp2_with fail
      refine wp_region_held_drew (S := fun w' => BoxAt w' w.heap.size 43 #[.int .i64 q.f0, .int .i64 q.f1, .int .i64 q.f2] ∧ Below wr.heap.size wr w') (by kernel_rfl) ?_ (fun hHeld => ?_)
      · exact ⟨HX.out.drw, (Below.refl _ _).drew⟩
      refine wpAnyH_take (i := 0) (oi := ⟨some 14, _, _, _, _, _⟩) (v := ?_) rfl (by kernel_rfl) (by kernel_rfl) (by kernel_rfl) (fun _ _ _ h => h) (Or.inl ⟨by kernel_rfl, ?_⟩) hHeld ?_
      rotate_left
      focus (intro W hS; have c0_0 := (hS.1).at_ (j := 0) rfl; have c0_1 := (hS.1).at_ (j := 1) rfl; have c0_2 := (hS.1).at_ (j := 2) rfl; have c0' := cell_nw hS.2 c0; have c1' := cell_nw hS.2 c1; have c2' := cell_nw hS.2 c2; have c3' := cell_nw hS.2 c3; have c4' := cell_nw hS.2 c4; have c5' := cell_nw hS.2 c5; have c6' := cell_nw hS.2 c6; have c7' := cell_nw hS.2 c7; clear hS; first | (go_simp; done) | (go_simp; with_reducible rfl))
      try simp only [Act.put, List.setIfInBounds_toArray, List.set_cons_zero, List.set_cons_succ]
      refine wpAnyH_take (i := 1) (oi := ⟨some 15, _, _, _, _, _⟩) (v := ?_) rfl (by kernel_rfl) (by kernel_rfl) (by kernel_rfl) (fun _ _ _ h => h) (Or.inl ⟨by kernel_rfl, ?_⟩) hHeld ?_
      rotate_left
      focus (intro W hS; have c0_0 := (hS.1).at_ (j := 0) rfl; have c0_1 := (hS.1).at_ (j := 1) rfl; have c0_2 := (hS.1).at_ (j := 2) rfl; have c0' := cell_nw hS.2 c0; have c1' := cell_nw hS.2 c1; have c2' := cell_nw hS.2 c2; have c3' := cell_nw hS.2 c3; have c4' := cell_nw hS.2 c4; have c5' := cell_nw hS.2 c5; have c6' := cell_nw hS.2 c6; have c7' := cell_nw hS.2 c7; clear hS; first | (go_simp; done) | (go_simp; with_reducible rfl))
      try simp only [Act.put, List.setIfInBounds_toArray, List.set_cons_zero, List.set_cons_succ]
      refine wpAnyH_take (i := 2) (oi := ⟨some 16, _, _, _, _, _⟩) (v := ?_) rfl (by kernel_rfl) (by kernel_rfl) (by kernel_rfl) (fun _ _ _ h => h) (Or.inl ⟨by kernel_rfl, ?_⟩) hHeld ?_
      rotate_left
      focus (intro W hS; have c0_0 := (hS.1).at_ (j := 0) rfl; have c0_1 := (hS.1).at_ (j := 1) rfl; have c0_2 := (hS.1).at_ (j := 2) rfl; have c0' := cell_nw hS.2 c0; have c1' := cell_nw hS.2 c1; have c2' := cell_nw hS.2 c2; have c3' := cell_nw hS.2 c3; have c4' := cell_nw hS.2 c4; have c5' := cell_nw hS.2 c5; have c6' := cell_nw hS.2 c6; have c7' := cell_nw hS.2 c7; clear hS; first | (go_simp; done) | (go_simp; with_reducible rfl))
      try simp only [Act.put, List.setIfInBounds_toArray, List.set_cons_zero, List.set_cons_succ]
      refine wpAnyH_take (i := 3) (oi := ⟨some 17, _, _, _, _, _⟩) (v := ?_) rfl (by kernel_rfl) (by kernel_rfl) (by kernel_rfl) (fun _ _ _ h => h) (Or.inl ⟨by kernel_rfl, ?_⟩) hHeld ?_
      rotate_left
      focus (intro W hS; have c0_0 := (hS.1).at_ (j := 0) rfl; have c0_1 := (hS.1).at_ (j := 1) rfl; have c0_2 := (hS.1).at_ (j := 2) rfl; have c0' := cell_nw hS.2 c0; have c1' := cell_nw hS.2 c1; have c2' := cell_nw hS.2 c2; have c3' := cell_nw hS.2 c3; have c4' := cell_nw hS.2 c4; have c5' := cell_nw hS.2 c5; have c6' := cell_nw hS.2 c6; have c7' := cell_nw hS.2 c7; clear hS; first | (go_simp; done) | (go_simp; with_reducible rfl))
      try simp only [Act.put, List.setIfInBounds_toArray, List.set_cons_zero, List.set_cons_succ]
      refine wpAnyH_take (i := 4) (oi := ⟨some 18, _, _, _, _, _⟩) (v := ?_) rfl (by kernel_rfl) (by kernel_rfl) (by kernel_rfl) (fun _ _ _ h => h) (Or.inl ⟨by kernel_rfl, ?_⟩) hHeld ?_
      rotate_left
      focus (intro W hS; have c0_0 := (hS.1).at_ (j := 0) rfl; have c0_1 := (hS.1).at_ (j := 1) rfl; have c0_2 := (hS.1).at_ (j := 2) rfl; have c0' := cell_nw hS.2 c0; have c1' := cell_nw hS.2 c1; have c2' := cell_nw hS.2 c2; have c3' := cell_nw hS.2 c3; have c4' := cell_nw hS.2 c4; have c5' := cell_nw hS.2 c5; have c6' := cell_nw hS.2 c6; have c7' := cell_nw hS.2 c7; clear hS; first | (go_simp; done) | (go_simp; with_reducible rfl))
      try simp only [Act.put, List.setIfInBounds_toArray, List.set_cons_zero, List.set_cons_succ]
      refine wpAnyH_ready (rs := [5]) (by kernel_rfl) (by simp) ?_
      refine AllReadyH.cons (o := ⟨some 19, _, _, _, _, _⟩) rfl (fun K hK => ?_) AllReadyH.nil
      go_simp
      refine Calls.mono (C0.out _) ?_
      rintro e x1 ⟨rfl, hb1⟩
      refine hK.out _ _ ⟨hHeld.1.new hb1, below_trans hHeld.2 hb1 (Nat.le_refl _)⟩ (fun hHeld' => ?_)
      clear hK K hHeld hb1
      have hHeld := hHeld'
      clear hHeld'
      try simp only [Act.put, List.setIfInBounds_toArray, List.set_cons_zero, List.set_cons_succ]
      cases r
      · skip
        refine wpAnyH_done (by kernel_rfl) ?_ _
        have HO1 := Lib.hid (own_newer HO.out hHeld.2)
        have HB1 := Lib.hid (below_trans HB.out hHeld.2 (Nat.le_of_eq HS0.out.symm))
        clear hHeld
        go_wp2_with fail
        go_roundg (n - (k + 1))
        case measure => omega
        case rel => exact ⟨k + 1, by omega, by omega, by go_num, by rw [HEf.out (by simp)]; exact HO1.out, HB1⟩
      · skip
        refine wpAnyH_done (by kernel_rfl) ?_ _
        have HO1 := Lib.hid (own_newer HO.out hHeld.2)
        have HB1 := Lib.hid (below_trans HB.out hHeld.2 (Nat.le_of_eq HS0.out.symm))
        have HS1 := Lib.hid HB1.out.size
        clear hHeld
        go_wp2_with (at_builtin; refine wp_app_lit rfl _ _ _ rfl (w.heap.size + 1) 3 (.int .i64 0) 1 8 Try.underlying67 info_intN rfl (by decide) _ _ _ rfl HO1.out #[.int .i64 (k : Int)] 1 1 _ rfl (by simp) rfl (one_intN _) (by have := HN.out; unfold maxLen; omega) (by have := HN.out; omega) (by have := HS1.out; simp at this; omega) ?_; intro v1 w2 ho1 hb1)
        have HO2 := Lib.hid (show w2.ownsRow (w.heap.size + 1) 3 1 v1 ((L.take (k + 1)).filter p).length (i64s ((L.take (k + 1)).filter p)) by
          rw [HEt.out (by simp)]
          simpa using ho1)
        have HB2 := Lib.hid (HB1.out.trans hb1)
        clear ho1 hb1
        go_wp2_with fail
        go_roundg (n - (k + 1))
        case measure => omega
        case rel => exact ⟨k + 1, by omega, by omega, by go_num, HO2.out, HB2⟩
    · obtain rfl : k = n := by omega
      have HO2 := HO.out
      rw [List.take_of_length_le (by rw [HRL.out]; omega)] at HO2
      replace HO2 := Lib.hid HO2
      have HBe := Lib.hid (below_trans ((Below.refl w.heap.size w).alloc (Nat.le_refl _) (.cells #[.int .i64 q.f0, .int .i64 q.f1, .int .i64 q.f2] 43)) hbw (Nat.le_refl _))
      clear hbw
      go_wp2_with fail
      go_ret
      exact makes_of_own (own_base HO2.out (Nat.le_succ _)) HBe.out
end Go.Proofs.Ytkhadhplfmejlaa
