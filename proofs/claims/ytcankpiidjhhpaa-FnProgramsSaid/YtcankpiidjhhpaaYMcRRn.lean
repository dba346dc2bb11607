/- McRRn, what is needed of it. -/
import Derived.Test.YtcankpiidjhhpaaYMcA
import Derived.Test.YtcankpiidjhhpaaYClr
import Derived.Deep.RegionHeld3
import Derived.Deep.LoopGhost
namespace Go.Proofs.Ytcankpiidjhhpaa
open Go Go.ChangeShapes Go.WideShapes Go.ChangeAt Go.RowKit Go.Lib
set_option linter.unusedVariables false
set_option linter.unusedSimpArgs false
set_option maxRecDepth 100000
/-- From w to w' no block that was there has turned, but for block q and, from base on, rows of this type. -/
structure ChgTRn (q base : Nat) (E : TypeId) (w w' : World) : Prop where
  os : w'.os = w.os
  tape : w'.tape = w.tape
  output : w'.output = w.output
  size : w.heap.size ≤ w'.heap.size
  block : ∀ k, k < w.heap.size → k ≠ q → (k < base ∨ ∀ cs z, w.heap[k]? ≠ some (.cells cs E z)) → w'.heap[k]? = w.heap[k]?
section
variable {q base : Nat} {E : TypeId} {w w' w'' : World}
theorem chgT_newRn (h : Below w.heap.size w w') : ChgTRn q base E w w' := ⟨h.os, h.tape, h.output, h.size, fun k hk _ _ => h.block k hk⟩
theorem chgT_afterRn (h : Below w.heap.size w w') (k : ChgTRn q base E w' w'') : ChgTRn q base E w w'' :=
  ⟨k.os.trans h.os, k.tape.trans h.tape, k.output.trans h.output, Nat.le_trans h.size k.size, fun i hi hq hc => (k.block i (Nat.lt_of_lt_of_le hi h.size) hq (by rw [h.block i hi]; exact hc)).trans (h.block i hi)⟩
theorem ChgTRn.box (h : ChgTRn q base E w w') {p : Nat} {T : TypeId} {cs : Array Value} (hb : BoxAt w p T cs) (hq : p ≠ q) (hT : T ≠ E) : BoxAt w' p T cs :=
  (h.block p hb.lt hq (.inr fun cs' z e => by rw [show w.heap[p]? = _ from hb] at e; injection e with e; injection e with _ e2 _; exact hT e2)).trans hb
theorem ChgTRn.mcell (h : ChgTRn q base E w w') {g : Nat} {A : Option Addr} {n c : Nat} {sv : Value} {v b : List Int} (hm : MCell w g A n c sv v b) (hq : g ≠ q) (hg : g < base) : MCell w' g A n c sv v b := hm.keep (h.block g hm.lt hq (.inl hg))
theorem ChgTRn.below (h : ChgTRn q base E w w') {B : Nat} (h1 : B ≤ q) (h2 : B ≤ base) (h3 : B ≤ w.heap.size) : Below B w w' := ⟨h.os, h.tape, h.output, h.size, fun k hk => h.block k (by omega) (by omega) (.inl (by omega))⟩
end
theorem mc_zero_Rn {w : World} {g : Nat} {A : Option Addr} {n c : Nat} {sv : Value} (h : MCell w g A n c sv (List.replicate 6 0) (List.replicate 6 0)) :
    ∃ w2, (∀ ty, (Builtin.clear_ #[131] ty #[.slice (some ⟨g, 2, none⟩) 6 6]).run Try.prog w = .ok (.tuple #[]) w2) ∧ MCell w2 g A n c sv (List.replicate 6 0) (List.replicate 6 0) ∧ Chg g (g + 1) w w2 := by
  have hz : (Builtin.zeroCells (Value.agg #[.int .i64 0, .int .i64 0]).cells 6).toList = List.replicate 12 (.int .i64 0) := by kernel_rfl
  have hcl : ∀ ty, (Builtin.clear_ #[131] ty #[.slice (some ⟨g, 2, none⟩) 6 6]).run Try.prog w = .ok (.tuple #[]) (w.setCells g 2 (Builtin.zeroCells (Value.agg #[.int .i64 0, .int .i64 0]).cells 6).toList) := fun ty =>
    run_clear_rows w _ _ ty (.agg #[.int .i64 0, .int .i64 0]) 2 Try.underlying131 Try.zeroValue100 rfl g 2 6 6 (by decide)
      (fun t ht => by rw [World.rowIs.cell h (by omega)]; rfl) (fun t _ => h.frozen _) (by
        intro v hv
        rw [hz] at hv
        rw [List.eq_of_mem_replicate hv]
        rfl)
  rw [hz] at hcl
  refine ⟨_, hcl, ?_, chg_setCells (Nat.le_refl _) (Nat.lt_succ_self _) _ _ _ (Chg.refl _ _ _)⟩
  refine World.rowIs.congr (rowIs_setCells _ 2 w _ h) fun j hj => ?_
  by_cases e : 2 ≤ j
  · rw [if_pos ⟨e, by simp; omega⟩]
    have hr : ∀ k, (List.replicate 6 (0 : Int)).getD k 0 = 0 := fun k => by
      rw [List.getD_eq_getElem?_getD, List.getElem?_replicate]
      split <;> rfl
    unfold mcf
    rw [if_neg (by omega), if_neg (by omega), hr, List.getElem?_replicate, if_pos (by omega)]
    split <;> rfl
  · rw [if_neg (by omega)]
set_option maxHeartbeats 8000000 in
theorem mc_Send_Rn (o : TOp) (g q base : Nat) (E : TypeId) (A : Option Addr) (n c : Nat) (cap : Array Value) (v b : List Int) (s : List TSent) (R : List TSent → World → Prop) (w : World) (ho : mOp o = true) (hk : o.f0 = 5) (hv : v.length = 6 ∧ ∀ z ∈ v, 0 ≤ z ∧ z ≤ 999) (hb : b.length = 6 ∧ ∀ z ∈ b, mIsLabel z = true) (h : MCell w g A n c (.func (.func 72) #[] cap) v b) (hgq : q ≠ g) (hq : q < w.heap.size) (hgb : g < base) (hTO : 49 ≠ E)
    (hR0 : R s w) (hRn : ∀ s W W', R s W → Below W.heap.size W W' → R s W')
    (hS : ∀ (W : World) (t0 z y : Int), R s W → (1 ≤ t0 ∧ t0 ≤ 9) → (0 ≤ z ∧ z ≤ 999) → mIsLabel y = true → Below w.heap.size w W → Calls Try.prog 72 (#[.int .i64 t0, .agg #[.int .i64 z, .int .i64 y]] ++ cap) W (fun e W' => e = .returned (.tuple #[]) ∧ R (s ++ [⟨t0, z, y⟩]) W' ∧ ChgTRn q base E W W')) :
    Calls Try.prog 106 #[.pointer (some ⟨g, 0, none⟩), .agg #[.int .i64 o.f0, .int .i64 o.f1, .int .i64 o.f2, .int .i64 o.f3]] w (fun e w' => e = .returned (.tuple #[]) ∧ MCell w' g A n c (.func (.func 72) #[] cap) (mStV o [] v) (mStB o b) ∧ R (s ++ mSd o v b) w' ∧ ChgTRn q base E w w') := by
  obtain ⟨h1, h2, h3⟩ := mOp_12 ho (.inr hk)
  obtain ⟨ka, e1, hka⟩ := mReg_n h1
  rw [e1] at h1
  obtain ⟨va, eva⟩ : ∃ z, Hid (v.getD ka 0 = z) := ⟨_, Lib.hid rfl⟩
  obtain ⟨ba, ela⟩ : ∃ z, Hid (b.getD ka 0 = z) := ⟨_, Lib.hid rfl⟩
  have hva : 0 ≤ va ∧ va ≤ 999 := by have h0 := gI_in (P := fun z => 0 ≤ z ∧ z ≤ 999) hv (k := (ka : Int)) h1; rw [← eva.out]; simpa [gI] using h0
  have hba : mIsLabel ba = true := by have h0 := gI_in (P := fun z => mIsLabel z = true) hb (k := (ka : Int)) h1; rw [← ela.out]; simpa [gI] using h0
  have EV : mStV o [] v = v := by unfold mStV; rw [if_neg (by omega), if_neg (by omega), if_neg (by omega), if_neg (by omega)]
  have EB : mStB o b = b := by unfold mStB; rw [if_neg (by omega), if_neg (by omega), if_neg (by omega), if_neg (by omega)]
  have ES : mSd o v b = [⟨o.f2, va, ba⟩] := by unfold mSd; rw [if_pos hk, e1, ← eva.out, ← ela.out]; rfl
  rw [EV, EB, ES, e1]
  have hki : (ka : Int) < 6 := by omega
  have CX := Lib.hid (fun (W : World) (hb : Below w.heap.size w W) => hS W o.f2 va ba (hRn s w W hR0 hb) ⟨h2, h3⟩ hva hba hb)
  have GQ : Below w.heap.size w (w.alloc (.cells #[.int .i64 o.f0, .int .i64 (ka : Int), .int .i64 o.f2, .int .i64 o.f3] 49)).drew := ((Below.refl _ _).alloc (Nat.le_refl _) _).drew
  have HM := Lib.hid h
  have KB0 := Lib.hid (box_new w 49 #[.int .i64 o.f0, .int .i64 (ka : Int), .int .i64 o.f2, .int .i64 o.f3])
  have hlt := h.lt
  clear EV EB ES h1 h2 h3 ho hk hv hb h e1 hva hba hR0 hRn hS
  go_enter Try.func106, Try.ntmps106
  go_wp2_with fail
  refine wp_region_held_drew (S := fun w' => BoxAt w' w.heap.size 49 #[.int .i64 o.f0, .int .i64 (ka : Int), .int .i64 o.f2, .int .i64 o.f3] ∧ MCell w' g A n c (.func (.func 72) #[] cap) v b) (by kernel_rfl) ?_ (fun hHeld => ?_)
  · exact ⟨KB0.out.drw, (HM.out.alloc _).drw⟩
  generalize (World.drew _) = x0 at hHeld GQ ⊢
  refine wpAnyH_take (i := 0) (oi := ⟨some 4, _, _, _, _, _⟩) (v := ?_) rfl (by kernel_rfl) (by kernel_rfl) (by kernel_rfl) (fun _ _ _ h => h) (Or.inl ⟨by kernel_rfl, ?_⟩) hHeld ?_
  rotate_left
  focus (intro W hS; skip; clear hS; first | (go_simp; done) | (go_simp; with_reducible rfl))
  try simp only [Act.put, List.setIfInBounds_toArray, List.set_cons_zero, List.set_cons_succ]
  refine wpAnyH_take (i := 1) (oi := ⟨some 5, _, _, _, _, _⟩) (v := ?_) rfl (by kernel_rfl) (by kernel_rfl) (by kernel_rfl) (fun _ _ _ h => h) (Or.inl ⟨by kernel_rfl, ?_⟩) hHeld ?_
  rotate_left
  focus (intro W hS; skip; clear hS; first | (go_simp; done) | (go_simp; with_reducible rfl))
  try simp only [Act.put, List.setIfInBounds_toArray, List.set_cons_zero, List.set_cons_succ]
  refine wpAnyH_take (i := 2) (oi := ⟨some 6, _, _, _, _, _⟩) (v := ?_) rfl (by kernel_rfl) (by kernel_rfl) (by kernel_rfl) (fun _ _ _ h => h) (Or.inl ⟨by kernel_rfl, ?_⟩) hHeld ?_
  rotate_left
  focus (intro W hS; skip; clear hS; first | (go_simp; done) | (go_simp; with_reducible rfl))
  try simp only [Act.put, List.setIfInBounds_toArray, List.set_cons_zero, List.set_cons_succ]
  refine wpAnyH_take (i := 3) (oi := ⟨some 7, _, _, _, _, _⟩) (v := ?_) rfl (by kernel_rfl) (by kernel_rfl) (by kernel_rfl) (fun _ _ _ h => h) (Or.inl ⟨by kernel_rfl, ?_⟩) hHeld ?_
  rotate_left
  focus (intro W hS; have c0_0 := (hS.1).at_ (j := 0) rfl; have c0_1 := (hS.1).at_ (j := 1) rfl; have c0_2 := (hS.1).at_ (j := 2) rfl; have c0_3 := (hS.1).at_ (j := 3) rfl; have mv := hS.2.val hka; have ml := hS.2.lab hka; have ms := hS.2.send; rw [eva.out] at mv; rw [ela.out] at ml; clear hS; first | (go_simp; done) | (go_simp; with_reducible rfl))
  try simp only [Act.put, List.setIfInBounds_toArray, List.set_cons_zero, List.set_cons_succ]
  refine wpAnyH_take (i := 4) (oi := ⟨some 8, _, _, _, _, _⟩) (v := ?_) rfl (by kernel_rfl) (by kernel_rfl) (by kernel_rfl) (fun _ _ _ h => h) (Or.inl ⟨by kernel_rfl, ?_⟩) hHeld ?_
  rotate_left
  focus (intro W hS; skip; clear hS; first | (go_simp; done) | (go_simp; with_reducible rfl))
  try simp only [Act.put, List.setIfInBounds_toArray, List.set_cons_zero, List.set_cons_succ]
  refine wpAnyH_take (i := 5) (oi := ⟨some 9, _, _, _, _, _⟩) (v := ?_) rfl (by kernel_rfl) (by kernel_rfl) (by kernel_rfl) (fun _ _ _ h => h) (Or.inl ⟨by kernel_rfl, ?_⟩) hHeld ?_
  rotate_left
  focus (intro W hS; have c0_0 := (hS.1).at_ (j := 0) rfl; have c0_1 := (hS.1).at_ (j := 1) rfl; have c0_2 := (hS.1).at_ (j := 2) rfl; have c0_3 := (hS.1).at_ (j := 3) rfl; have mv := hS.2.val hka; have ml := hS.2.lab hka; have ms := hS.2.send; rw [eva.out] at mv; rw [ela.out] at ml; clear hS; first | (go_simp; done) | (go_simp; with_reducible rfl))
  try simp only [Act.put, List.setIfInBounds_toArray, List.set_cons_zero, List.set_cons_succ]
  refine wpAnyH_take (i := 6) (oi := ⟨some 10, _, _, _, _, _⟩) (v := ?_) rfl (by kernel_rfl) (by kernel_rfl) (by kernel_rfl) (fun _ _ _ h => h) (Or.inl ⟨by kernel_rfl, ?_⟩) hHeld ?_
  rotate_left
  focus (intro W hS; skip; clear hS; first | (go_simp; done) | (go_simp; with_reducible rfl))
  try simp only [Act.put, List.setIfInBounds_toArray, List.set_cons_zero, List.set_cons_succ]
  refine wpAnyH_take (i := 7) (oi := ⟨some 11, _, _, _, _, _⟩) (v := ?_) rfl (by kernel_rfl) (by kernel_rfl) (by kernel_rfl) (fun _ _ _ h => h) (Or.inl ⟨by kernel_rfl, ?_⟩) hHeld ?_
  rotate_left
  focus (intro W hS; skip; clear hS; first | (go_simp; done) | (go_simp; with_reducible rfl))
  try simp only [Act.put, List.setIfInBounds_toArray, List.set_cons_zero, List.set_cons_succ]
  refine wpAnyH_take (i := 8) (oi := ⟨some 12, _, _, _, _, _⟩) (v := ?_) rfl (by kernel_rfl) (by kernel_rfl) (by kernel_rfl) (fun _ _ _ h => h) (Or.inl ⟨by kernel_rfl, ?_⟩) hHeld ?_
  rotate_left
  focus (intro W hS; have c0_0 := (hS.1).at_ (j := 0) rfl; have c0_1 := (hS.1).at_ (j := 1) rfl; have c0_2 := (hS.1).at_ (j := 2) rfl; have c0_3 := (hS.1).at_ (j := 3) rfl; have mv := hS.2.val hka; have ml := hS.2.lab hka; have ms := hS.2.send; rw [eva.out] at mv; rw [ela.out] at ml; clear hS; first | (go_simp; done) | (go_simp; with_reducible rfl))
  try simp only [Act.put, List.setIfInBounds_toArray, List.set_cons_zero, List.set_cons_succ]
  refine wpAnyH_take (i := 9) (oi := ⟨some 13, _, _, _, _, _⟩) (v := ?_) rfl (by kernel_rfl) (by kernel_rfl) (by kernel_rfl) (fun _ _ _ h => h) (Or.inl ⟨by kernel_rfl, ?_⟩) hHeld ?_
  rotate_left
  focus (intro W hS; skip; clear hS; first | (go_simp; done) | (go_simp; with_reducible rfl))
  try simp only [Act.put, List.setIfInBounds_toArray, List.set_cons_zero, List.set_cons_succ]
  refine wpAnyH_take (i := 10) (oi := ⟨some 14, _, _, _, _, _⟩) (v := ?_) rfl (by kernel_rfl) (by kernel_rfl) (by kernel_rfl) (fun _ _ _ h => h) (Or.inl ⟨by kernel_rfl, ?_⟩) hHeld ?_
  rotate_left
  focus (intro W hS; skip; clear hS; first | (go_simp; done) | (go_simp; with_reducible rfl))
  try simp only [Act.put, List.setIfInBounds_toArray, List.set_cons_zero, List.set_cons_succ]
  refine wpAnyH_take (i := 11) (oi := ⟨some 15, _, _, _, _, _⟩) (v := ?_) rfl (by kernel_rfl) (by kernel_rfl) (by kernel_rfl) (fun _ _ _ h => h) (Or.inl ⟨by kernel_rfl, ?_⟩) hHeld ?_
  rotate_left
  focus (intro W hS; skip; clear hS; first | (go_simp; done) | (go_simp; with_reducible rfl))
  try simp only [Act.put, List.setIfInBounds_toArray, List.set_cons_zero, List.set_cons_succ]
  refine wpAnyH_take (i := 12) (oi := ⟨some 16, _, _, _, _, _⟩) (v := ?_) rfl (by kernel_rfl) (by kernel_rfl) (by kernel_rfl) (fun _ _ _ h => h) (Or.inl ⟨by kernel_rfl, ?_⟩) hHeld ?_
  rotate_left
  focus (intro W hS; have c0_0 := (hS.1).at_ (j := 0) rfl; have c0_1 := (hS.1).at_ (j := 1) rfl; have c0_2 := (hS.1).at_ (j := 2) rfl; have c0_3 := (hS.1).at_ (j := 3) rfl; have mv := hS.2.val hka; have ml := hS.2.lab hka; have ms := hS.2.send; rw [eva.out] at mv; rw [ela.out] at ml; clear hS; first | (go_simp; done) | (go_simp; with_reducible rfl))
  try simp only [Act.put, List.setIfInBounds_toArray, List.set_cons_zero, List.set_cons_succ]
  refine wpAnyH_ready (rs := [13]) (by kernel_rfl) (by simp) ?_
  refine AllReadyH.cons (o := ⟨some 17, _, _, _, _, _⟩) rfl (fun K hK => ?_) AllReadyH.nil
  go_simp
  have hlt8 := hHeld.2.lt
  refine (CX.out _ GQ).mono ?_
  rintro e x1 ⟨rfl, hR1, hc1⟩
  have hC7 := chgT_afterRn GQ hc1
  refine hK.out _ _ ⟨hc1.box hHeld.1 (by omega) hTO, hc1.mcell hHeld.2 (by omega) hgb⟩ (fun hHeld' => ?_)
  clear hK K hHeld
  have hHeld := hHeld'
  clear hHeld'
  try simp only [Act.put, List.setIfInBounds_toArray, List.set_cons_zero, List.set_cons_succ]
  refine wpAnyH_done (by kernel_rfl) ?_ _
  go_wp2_with fail
  refine bodyPost_end (v := .tuple #[]) (by simp [results, Try.results106, go_sem]) rfl ?_
  exact ⟨rfl, hHeld.2, hR1, hC7⟩
set_option maxHeartbeats 16000000 in
theorem mc_Run_Rn (l : List TOp) (Al : Option Addr) (nl cl lol hil : Nat) (vals : List Int) (A : Option Addr) (n c lo hi g q B base : Nat) (E : TypeId) (cap : Array Value) (R : List TSent → World → Prop) (w : World) (hn : n ≤ 1048576) (hr : Rd w lo hi 1 A n (i64s vals)) (hH : Hid (I64s vals)) (hhi : hi ≤ B) (hnl : nl ≤ 1048576) (hl : Rd w lol hil 4 Al nl (cOp l)) (hhl : hil ≤ B) (hcl : nl ≤ cl) (hok : Hid (cOpOk l))
    (hBg : B ≤ g) (hBq : B ≤ q) (hgq : q ≠ g) (hq : q < w.heap.size) (hgb : g < base) (hTO : 49 ≠ E) (hT6 : 133 ≠ E) (h : MCell w g A n c (.func (.func 72) #[] cap) (List.replicate 6 0) (List.replicate 6 0)) (hR0 : R [] w)
    (hRg : ∀ s W W', R s W → Chg g (g + 1) W W' → R s W') (hS : ∀ (s : List TSent) (W : World) (t0 z y : Int), R s W → s.length ≤ 1048576 → (1 ≤ t0 ∧ t0 ≤ 9) → (0 ≤ z ∧ z ≤ 999) → mIsLabel y = true → Below B w W → Calls Try.prog 72 (#[.int .i64 t0, .agg #[.int .i64 z, .int .i64 y]] ++ cap) W (fun e W' => e = .returned (.tuple #[]) ∧ R (s ++ [⟨t0, z, y⟩]) W' ∧ ChgTRn q base E W W')) :
    Calls Try.prog 73 #[.pointer (some ⟨g, 0, none⟩), .slice Al nl cl] w (fun e w' => e = .returned (.bool (mAreOps l)) ∧ MCell w' g A n c (.func (.func 72) #[] cap) (if mAreOps l then mMc vals l else mMc0).v (if mAreOps l then mMc vals l else mMc0).b ∧ R (if mAreOps l then mMc vals l else mMc0).s w' ∧ Below B w w') := by
  have hRn : ∀ s W W', R s W → Below W.heap.size W W' → R s W' := fun s W W' h1 h2 => hRg s W W' h1 (chg_of_new h2)
  have HL := Lib.hid (rd_len TOp.len hl (by decide))
  have CA := Lib.hid (fun W (hb : Below w.heap.size w W) => impl_AreOpsC l Al nl cl lol hil W hnl (hl.new hb) hcl hok)
  have hlt := h.lt
  have HM := Lib.hid h
  have HR0 := Lib.hid hR0
  have hmr : mMc0.v = List.replicate 6 0 ∧ mMc0.b = List.replicate 6 0 ∧ mMc0.s = [] := ⟨rfl, rfl, rfl⟩
  cases hA : mAreOps l with
  | false =>
    rw [hA] at CA
    obtain ⟨e1, e2, e3⟩ := hmr
    rw [if_neg (by decide), e1, e2, e3]
    clear h hr hR0 hS hl hA e1 e2 e3
    go_enter Try.func73, Try.ntmps73
    go_wp2_with fail
    refine (CA.out _ (Below.refl _ _)).mono ?_
    rintro e w1 ⟨rfl, hb1⟩
    have HM1 := Lib.hid (HM.out.new hb1)
    have HR1 := Lib.hid (hRn _ _ _ HR0.out hb1)
    have HB1 := Lib.hid (hb1.mono (show B ≤ w.heap.size by omega))
    clear hb1
    go_wp2_with fail
    go_ret
    exact ⟨rfl, HM1.out, HR1.out, HB1.out⟩
  | true =>
    rw [hA] at CA
    rw [if_pos rfl]
    have HO := Lib.hid (show l.all mOp = true by simp only [mAreOps, Bool.and_eq_true] at hA; exact hA.2)
    have HLR := Lib.hid hl
    have HVR := Lib.hid hr
    have HSx := Lib.hid hS
    have HRg := Lib.hid hRg
    have HRn := Lib.hid hRn
    clear h hr hR0 hS hl hA hmr hRg hRn
    go_enter Try.func73, Try.ntmps73
    go_wp2_with fail
    refine (CA.out _ (Below.refl _ _)).mono ?_
    rintro e w1 ⟨rfl, hb1⟩
    have HB1 := Lib.hid (hb1.mono (show B ≤ w.heap.size by omega))
    obtain ⟨w2, hcl, hm2, hc2⟩ := mc_zero_Rn (HM.out.new hb1)
    have HM2 := Lib.hid hm2
    have HR2 := Lib.hid (HRg.out _ _ _ (HRn.out _ _ _ HR0.out hb1) hc2)
    have HB2 := Lib.hid (HB1.out.trans (hc2.below (.inl hBg) (by have := hb1.size; omega)))
    have hs2 : w.heap.size ≤ w2.heap.size := Nat.le_trans hb1.size hc2.size
    have hmf : ∀ (fn : Fn) (first cap : Array Value) (w : World), (Instr.makeFunc fn first cap).run Try.prog w = .ok (.func fn first cap) w := fun _ _ _ _ => rfl
    clear hb1 hm2 hc2 HB1 HR0 HM CA
    have KS0 := Lib.hid (box_new w2 133 #[.nilFunc, .nilFunc, .nilFunc, .nilFunc, .nilFunc, .nilFunc])
    have HB2a := Lib.hid ((Below.refl w2.heap.size w2).alloc (Nat.le_refl _) (.cells #[.nilFunc, .nilFunc, .nilFunc, .nilFunc, .nilFunc, .nilFunc] 133))
    go_wp2_with (refine wpList_store_row rfl 133 _ _ rfl w2.heap.size #[.nilFunc, .func (.func 102) #[.pointer (some ⟨g, 0, none⟩)] #[], .func (.func 103) #[.pointer (some ⟨g, 0, none⟩)] #[], .func (.func 104) #[.pointer (some ⟨g, 0, none⟩)] #[], .func (.func 105) #[.pointer (some ⟨g, 0, none⟩)] #[], .func (.func 106) #[.pointer (some ⟨g, 0, none⟩)] #[]] rfl rfl 133 _ KS0.out (by kernel_rfl) (by kernel_rfl) (by kernel_rfl) ?_; have KS1 := Lib.hid (box_row (cs := #[.nilFunc, .func (.func 102) #[.pointer (some ⟨g, 0, none⟩)] #[], .func (.func 103) #[.pointer (some ⟨g, 0, none⟩)] #[], .func (.func 104) #[.pointer (some ⟨g, 0, none⟩)] #[], .func (.func 105) #[.pointer (some ⟨g, 0, none⟩)] #[], .func (.func 106) #[.pointer (some ⟨g, 0, none⟩)] #[]]) KS0.out); have HB3 := Lib.hid (below_setRow HB2a.out (Nat.le_refl _) #[.nilFunc, .func (.func 102) #[.pointer (some ⟨g, 0, none⟩)] #[], .func (.func 103) #[.pointer (some ⟨g, 0, none⟩)] #[], .func (.func 104) #[.pointer (some ⟨g, 0, none⟩)] #[], .func (.func 105) #[.pointer (some ⟨g, 0, none⟩)] #[], .func (.func 106) #[.pointer (some ⟨g, 0, none⟩)] #[]]); clear KS0 HB2a; generalize World.setRow (w2.alloc (.cells #[.nilFunc, .nilFunc, .nilFunc, .nilFunc, .nilFunc, .nilFunc] 133)) w2.heap.size #[.nilFunc, .func (.func 102) #[.pointer (some ⟨g, 0, none⟩)] #[], .func (.func 103) #[.pointer (some ⟨g, 0, none⟩)] #[], .func (.func 104) #[.pointer (some ⟨g, 0, none⟩)] #[], .func (.func 105) #[.pointer (some ⟨g, 0, none⟩)] #[], .func (.func 106) #[.pointer (some ⟨g, 0, none⟩)] #[]] = w3 at KS1 HB3 ⊢)
    have HM3 := Lib.hid (HM2.out.new HB3.out)
    have HR3 := Lib.hid (HRn.out _ _ _ HR2.out HB3.out)
    have HBw := Lib.hid (HB2.out.trans (HB3.out.mono (by omega)))
    clear hcl HM2 HR2 HB2 HB3
    have hg2 : g < w2.heap.size := by omega
    have hq2 : q < w2.heap.size := by omega
    go_wp2_with fail
    go_loopg [28] nl (fun gg i wr => ∃ k : Nat, k ≤ nl ∧ nl - k ≤ gg ∧ i = .int .i64 k ∧ Hid (MCell wr g A n c (.func (.func 72) #[] cap) (mMc vals (l.take k)).v (mMc vals (l.take k)).b) ∧ Hid (R (mMc vals (l.take k)).s wr) ∧ Hid (BoxAt wr w2.heap.size 133 #[.nilFunc, .func (.func 102) #[.pointer (some ⟨g, 0, none⟩)] #[], .func (.func 103) #[.pointer (some ⟨g, 0, none⟩)] #[], .func (.func 104) #[.pointer (some ⟨g, 0, none⟩)] #[], .func (.func 105) #[.pointer (some ⟨g, 0, none⟩)] #[], .func (.func 106) #[.pointer (some ⟨g, 0, none⟩)] #[]]) ∧ Hid (Below B w wr))
    case atStart => exact ⟨0, Nat.zero_le _, by omega, rfl, HM3, HR3, KS1, HBw⟩
    case round =>
      obtain ⟨k, hk, hg, rfl, HM, HR, KS, HB⟩ := hrel
      by_cases hlt2 : k < nl
      · obtain ⟨b, off, x, rfl, hlo, hhi2, hz, hc⟩ := rd_elem TOp.len (HLR.out.below HB.out hhl) HL.out hlt2
        have hop : mOp x = true := List.all_eq_true.1 HO.out x (List.mem_of_getElem? hz)
        have HY := Lib.hid (mMc_take (vals := vals) hz)
        have HXok := mMc_ok (vals := vals) HO.out k
        obtain ⟨Y, HT⟩ : ∃ Y, Hid (mMc vals (l.take (k + 1)) = Y) := ⟨_, Lib.hid rfl⟩
        replace HY := Lib.hid (HT.out.symm.trans HY.out)
        have HXs := Lib.hid (show (mMc vals (l.take k)).s.length ≤ 1048576 from Nat.le_trans (mSent_le _) (by rw [List.length_take]; omega))
        generalize mMc vals (l.take k) = X at HM HR HY HXok HXs
        have c0 : wr.cell? ⟨b, off + k * 4, none⟩ = some (.int .i64 x.f0) := hc 0 _ rfl
        have c1 : wr.cell? ⟨b, off + k * 4 + 1, none⟩ = some (.int .i64 x.f1) := hc 1 _ rfl
        have c2 : wr.cell? ⟨b, off + k * 4 + 2, none⟩ = some (.int .i64 x.f2) := hc 2 _ rfl
        have c3 : wr.cell? ⟨b, off + k * 4 + 3, none⟩ = some (.int .i64 x.f3) := hc 3 _ rfl
        have hsw : w2.heap.size < wr.heap.size := KS.out.lt
        have hgw := HM.out.lt
        have hVR := HVR.out
        clear hz hc hlo hhi2
        rcases mOp_k hop with hk0 | hk0 | hk0 | hk0 | hk0
        · have CK : Hid (∀ W, MCell W g A n c (.func (.func 72) #[] cap) X.v X.b → R X.s W → BoxAt W wr.heap.size 49 #[.int .i64 1, .int .i64 x.f1, .int .i64 x.f2, .int .i64 x.f3] → BoxAt W w2.heap.size 133 #[.nilFunc, .func (.func 102) #[.pointer (some ⟨g, 0, none⟩)] #[], .func (.func 103) #[.pointer (some ⟨g, 0, none⟩)] #[], .func (.func 104) #[.pointer (some ⟨g, 0, none⟩)] #[], .func (.func 105) #[.pointer (some ⟨g, 0, none⟩)] #[], .func (.func 106) #[.pointer (some ⟨g, 0, none⟩)] #[]] → Below B w W → Calls Try.prog 102 #[.pointer (some ⟨g, 0, none⟩), .agg #[.int .i64 1, .int .i64 x.f1, .int .i64 x.f2, .int .i64 x.f3]] W (fun e W' => e = .returned (.tuple #[]) ∧ MCell W' g A n c (.func (.func 72) #[] cap) Y.v Y.b ∧ R Y.s W' ∧ BoxAt W' wr.heap.size 49 #[.int .i64 1, .int .i64 x.f1, .int .i64 x.f2, .int .i64 x.f3] ∧ BoxAt W' w2.heap.size 133 #[.nilFunc, .func (.func 102) #[.pointer (some ⟨g, 0, none⟩)] #[], .func (.func 103) #[.pointer (some ⟨g, 0, none⟩)] #[], .func (.func 104) #[.pointer (some ⟨g, 0, none⟩)] #[], .func (.func 105) #[.pointer (some ⟨g, 0, none⟩)] #[], .func (.func 106) #[.pointer (some ⟨g, 0, none⟩)] #[]] ∧ Below B w W')) := Lib.hid fun W hm hr1 hx hs hb => by
            have h := mc_Read x g A n c lo hi vals (.func (.func 72) #[] cap) X.v X.b W hn (hVR.below hb hhi) hop hk0 HXok.1 HXok.2 hm (by omega) hH
            rw [hk0] at h
            refine h.mono fun e W' hh => ?_
            obtain ⟨rfl, h1, h2⟩ := hh
            have e3 : Y.s = X.s := by rw [HY.out]; show X.s ++ mSd x X.v X.b = X.s; unfold mSd; rw [if_neg (by omega), List.append_nil]
            have hsz : w.heap.size ≤ W.heap.size := hb.size
            rw [e3]
            refine ⟨rfl, by rw [HY.out]; exact h1, HRg.out _ _ _ hr1 h2, hx.chg h2 (by omega), hs.chg h2 (by omega), hb.trans (h2.below (.inl hBg) (by omega))⟩
          rw [hk0] at c0
          have KX := Lib.hid (box_new wr 49 #[.int .i64 1, .int .i64 x.f1, .int .i64 x.f2, .int .i64 x.f3])
          have GM : MCell (wr.alloc (.cells #[.int .i64 1, .int .i64 x.f1, .int .i64 x.f2, .int .i64 x.f3] 49)).drew g A n c (.func (.func 72) #[] cap) X.v X.b := (HM.out.alloc _).drw
          have GR : R X.s (wr.alloc (.cells #[.int .i64 1, .int .i64 x.f1, .int .i64 x.f2, .int .i64 x.f3] 49)).drew := HRn.out _ _ _ HR.out (((Below.refl _ _).alloc (Nat.le_refl _) _).drew)
          have HBx := Lib.hid (show Below B w (wr.alloc (.cells #[.int .i64 1, .int .i64 x.f1, .int .i64 x.f2, .int .i64 x.f3] 49)).drew from (HB.out.alloc (by omega) _).drew)
          have KSx := Lib.hid ((KS.out.alloc_ (.cells #[.int .i64 1, .int .i64 x.f1, .int .i64 x.f2, .int .i64 x.f3] 49)).drw)
          clear hop hk0 HXok hVR HM HR KS HB HVR HSx HRg HY hH hhi
          go_wp2_with fail
          refine wp_region_held_drew (S := fun w' => BoxAt w' wr.heap.size 49 #[.int .i64 1, .int .i64 x.f1, .int .i64 x.f2, .int .i64 x.f3] ∧ BoxAt w' w2.heap.size 133 #[.nilFunc, .func (.func 102) #[.pointer (some ⟨g, 0, none⟩)] #[], .func (.func 103) #[.pointer (some ⟨g, 0, none⟩)] #[], .func (.func 104) #[.pointer (some ⟨g, 0, none⟩)] #[], .func (.func 105) #[.pointer (some ⟨g, 0, none⟩)] #[], .func (.func 106) #[.pointer (some ⟨g, 0, none⟩)] #[]] ∧ Below B w w') (by kernel_rfl) ?_ (fun hHeld => ?_)
          · exact ⟨KX.out.drw, KSx.out, HBx.out⟩
          generalize (World.drew _) = x0 at hHeld GM GR ⊢
          refine wpAnyH_take (i := 0) (oi := ⟨some 32, _, _, _, _, _⟩) (v := ?_) rfl (by kernel_rfl) (by kernel_rfl) (by kernel_rfl) (fun _ _ _ h => h) (Or.inl ⟨by kernel_rfl, ?_⟩) hHeld ?_
          rotate_left
          focus (intro W hS; skip; clear hS; first | (go_simp; done) | (go_simp; with_reducible rfl))
          try simp only [Act.put, List.setIfInBounds_toArray, List.set_cons_zero, List.set_cons_succ]
          refine wpAnyH_take (i := 1) (oi := ⟨some 33, _, _, _, _, _⟩) (v := ?_) rfl (by kernel_rfl) (by kernel_rfl) (by kernel_rfl) (fun _ _ _ h => h) (Or.inl ⟨by kernel_rfl, ?_⟩) hHeld ?_
          rotate_left
          focus (intro W hS; have c0_0 := (hS.1).at_ (j := 0) rfl; have c0_1 := (hS.1).at_ (j := 1) rfl; have c0_2 := (hS.1).at_ (j := 2) rfl; have c0_3 := (hS.1).at_ (j := 3) rfl; have c1_0 := (hS.2.1).at_ (j := 0) rfl; have c1_1 := (hS.2.1).at_ (j := 1) rfl; have c1_2 := (hS.2.1).at_ (j := 2) rfl; have c1_3 := (hS.2.1).at_ (j := 3) rfl; have c1_4 := (hS.2.1).at_ (j := 4) rfl; have c1_5 := (hS.2.1).at_ (j := 5) rfl; clear hS; first | (go_simp; done) | (go_simp; with_reducible rfl))
          try simp only [Act.put, List.setIfInBounds_toArray, List.set_cons_zero, List.set_cons_succ]
          refine wpAnyH_take (i := 2) (oi := ⟨some 34, _, _, _, _, _⟩) (v := ?_) rfl (by kernel_rfl) (by kernel_rfl) (by kernel_rfl) (fun _ _ _ h => h) (Or.inl ⟨by kernel_rfl, ?_⟩) hHeld ?_
          rotate_left
          focus (intro W hS; skip; clear hS; first | (go_simp; done) | (go_simp; with_reducible rfl))
          try simp only [Act.put, List.setIfInBounds_toArray, List.set_cons_zero, List.set_cons_succ]
          refine wpAnyH_take (i := 3) (oi := ⟨some 35, _, _, _, _, _⟩) (v := ?_) rfl (by kernel_rfl) (by kernel_rfl) (by kernel_rfl) (fun _ _ _ h => h) (Or.inl ⟨by kernel_rfl, ?_⟩) hHeld ?_
          rotate_left
          focus (intro W hS; have c0_0 := (hS.1).at_ (j := 0) rfl; have c0_1 := (hS.1).at_ (j := 1) rfl; have c0_2 := (hS.1).at_ (j := 2) rfl; have c0_3 := (hS.1).at_ (j := 3) rfl; have c1_0 := (hS.2.1).at_ (j := 0) rfl; have c1_1 := (hS.2.1).at_ (j := 1) rfl; have c1_2 := (hS.2.1).at_ (j := 2) rfl; have c1_3 := (hS.2.1).at_ (j := 3) rfl; have c1_4 := (hS.2.1).at_ (j := 4) rfl; have c1_5 := (hS.2.1).at_ (j := 5) rfl; clear hS; first | (go_simp; done) | (go_simp; with_reducible rfl))
          try simp only [Act.put, List.setIfInBounds_toArray, List.set_cons_zero, List.set_cons_succ]
          refine wpAnyH_take (i := 4) (oi := ⟨some 36, _, _, _, _, _⟩) (v := ?_) rfl (by kernel_rfl) (by kernel_rfl) (by kernel_rfl) (fun _ _ _ h => h) (Or.inl ⟨by kernel_rfl, ?_⟩) hHeld ?_
          rotate_left
          focus (intro W hS; have c0_0 := (hS.1).at_ (j := 0) rfl; have c0_1 := (hS.1).at_ (j := 1) rfl; have c0_2 := (hS.1).at_ (j := 2) rfl; have c0_3 := (hS.1).at_ (j := 3) rfl; have c1_0 := (hS.2.1).at_ (j := 0) rfl; have c1_1 := (hS.2.1).at_ (j := 1) rfl; have c1_2 := (hS.2.1).at_ (j := 2) rfl; have c1_3 := (hS.2.1).at_ (j := 3) rfl; have c1_4 := (hS.2.1).at_ (j := 4) rfl; have c1_5 := (hS.2.1).at_ (j := 5) rfl; clear hS; first | (go_simp; done) | (go_simp; with_reducible rfl))
          try simp only [Act.put, List.setIfInBounds_toArray, List.set_cons_zero, List.set_cons_succ]
          refine wpAnyH_ready (rs := [5]) (by kernel_rfl) (by simp) ?_
          refine AllReadyH.cons (o := ⟨some 37, _, _, _, _, _⟩) rfl (fun K hK => ?_) AllReadyH.nil
          go_simp
          refine (CK.out _ GM GR hHeld.1 hHeld.2.1 hHeld.2.2).mono ?_
          rintro e x1 ⟨rfl, hm1, hr1, hx1, hs1, hb1⟩
          have HM1 := Lib.hid hm1
          have HR1 := Lib.hid hr1
          clear hm1 hr1 GM GR
          refine hK.out _ _ ⟨hx1, hs1, hb1⟩ (fun hHeld' => ?_)
          clear hx1 hs1 hb1
          clear hK K hHeld
          have hHeld := hHeld'
          clear hHeld'
          try simp only [Act.put, List.setIfInBounds_toArray, List.set_cons_zero, List.set_cons_succ]
          refine wpAnyH_done (by kernel_rfl) ?_ _
          have HKS := Lib.hid hHeld.2.1
          have HBB := Lib.hid hHeld.2.2
          clear hHeld
          go_wp2_with fail
          go_roundg (nl - (k + 1))
          case measure => omega
          case rel => exact ⟨k + 1, by omega, by omega, by go_num, by rw [HT.out]; exact HM1, by rw [HT.out]; exact HR1, HKS, HBB⟩
        · have CK : Hid (∀ W, MCell W g A n c (.func (.func 72) #[] cap) X.v X.b → R X.s W → BoxAt W wr.heap.size 49 #[.int .i64 2, .int .i64 x.f1, .int .i64 x.f2, .int .i64 x.f3] → BoxAt W w2.heap.size 133 #[.nilFunc, .func (.func 102) #[.pointer (some ⟨g, 0, none⟩)] #[], .func (.func 103) #[.pointer (some ⟨g, 0, none⟩)] #[], .func (.func 104) #[.pointer (some ⟨g, 0, none⟩)] #[], .func (.func 105) #[.pointer (some ⟨g, 0, none⟩)] #[], .func (.func 106) #[.pointer (some ⟨g, 0, none⟩)] #[]] → Below B w W → Calls Try.prog 103 #[.pointer (some ⟨g, 0, none⟩), .agg #[.int .i64 2, .int .i64 x.f1, .int .i64 x.f2, .int .i64 x.f3]] W (fun e W' => e = .returned (.tuple #[]) ∧ MCell W' g A n c (.func (.func 72) #[] cap) Y.v Y.b ∧ R Y.s W' ∧ BoxAt W' wr.heap.size 49 #[.int .i64 2, .int .i64 x.f1, .int .i64 x.f2, .int .i64 x.f3] ∧ BoxAt W' w2.heap.size 133 #[.nilFunc, .func (.func 102) #[.pointer (some ⟨g, 0, none⟩)] #[], .func (.func 103) #[.pointer (some ⟨g, 0, none⟩)] #[], .func (.func 104) #[.pointer (some ⟨g, 0, none⟩)] #[], .func (.func 105) #[.pointer (some ⟨g, 0, none⟩)] #[], .func (.func 106) #[.pointer (some ⟨g, 0, none⟩)] #[]] ∧ Below B w W')) := Lib.hid fun W hm hr1 hx hs hb => by
            have h := mc_Const x g A n c lo hi vals (.func (.func 72) #[] cap) X.v X.b W hn (hVR.below hb hhi) hop hk0 HXok.1 HXok.2 hm (by omega) hH
            rw [hk0] at h
            refine h.mono fun e W' hh => ?_
            obtain ⟨rfl, h1, h2⟩ := hh
            have e3 : Y.s = X.s := by rw [HY.out]; show X.s ++ mSd x X.v X.b = X.s; unfold mSd; rw [if_neg (by omega), List.append_nil]
            have hsz : w.heap.size ≤ W.heap.size := hb.size
            rw [e3]
            refine ⟨rfl, by rw [HY.out]; exact h1, HRg.out _ _ _ hr1 h2, hx.chg h2 (by omega), hs.chg h2 (by omega), hb.trans (h2.below (.inl hBg) (by omega))⟩
          rw [hk0] at c0
          have KX := Lib.hid (box_new wr 49 #[.int .i64 2, .int .i64 x.f1, .int .i64 x.f2, .int .i64 x.f3])
          have GM : MCell (wr.alloc (.cells #[.int .i64 2, .int .i64 x.f1, .int .i64 x.f2, .int .i64 x.f3] 49)).drew g A n c (.func (.func 72) #[] cap) X.v X.b := (HM.out.alloc _).drw
          have GR : R X.s (wr.alloc (.cells #[.int .i64 2, .int .i64 x.f1, .int .i64 x.f2, .int .i64 x.f3] 49)).drew := HRn.out _ _ _ HR.out (((Below.refl _ _).alloc (Nat.le_refl _) _).drew)
          have HBx := Lib.hid (show Below B w (wr.alloc (.cells #[.int .i64 2, .int .i64 x.f1, .int .i64 x.f2, .int .i64 x.f3] 49)).drew from (HB.out.alloc (by omega) _).drew)
          have KSx := Lib.hid ((KS.out.alloc_ (.cells #[.int .i64 2, .int .i64 x.f1, .int .i64 x.f2, .int .i64 x.f3] 49)).drw)
          clear hop hk0 HXok hVR HM HR KS HB HVR HSx HRg HY hH hhi
          go_wp2_with fail
          refine wp_region_held_drew (S := fun w' => BoxAt w' wr.heap.size 49 #[.int .i64 2, .int .i64 x.f1, .int .i64 x.f2, .int .i64 x.f3] ∧ BoxAt w' w2.heap.size 133 #[.nilFunc, .func (.func 102) #[.pointer (some ⟨g, 0, none⟩)] #[], .func (.func 103) #[.pointer (some ⟨g, 0, none⟩)] #[], .func (.func 104) #[.pointer (some ⟨g, 0, none⟩)] #[], .func (.func 105) #[.pointer (some ⟨g, 0, none⟩)] #[], .func (.func 106) #[.pointer (some ⟨g, 0, none⟩)] #[]] ∧ Below B w w') (by kernel_rfl) ?_ (fun hHeld => ?_)
          · exact ⟨KX.out.drw, KSx.out, HBx.out⟩
          generalize (World.drew _) = x0 at hHeld GM GR ⊢
          refine wpAnyH_take (i := 0) (oi := ⟨some 32, _, _, _, _, _⟩) (v := ?_) rfl (by kernel_rfl) (by kernel_rfl) (by kernel_rfl) (fun _ _ _ h => h) (Or.inl ⟨by kernel_rfl, ?_⟩) hHeld ?_
          rotate_left
          focus (intro W hS; skip; clear hS; first | (go_simp; done) | (go_simp; with_reducible rfl))
          try simp only [Act.put, List.setIfInBounds_toArray, List.set_cons_zero, List.set_cons_succ]
          refine wpAnyH_take (i := 1) (oi := ⟨some 33, _, _, _, _, _⟩) (v := ?_) rfl (by kernel_rfl) (by kernel_rfl) (by kernel_rfl) (fun _ _ _ h => h) (Or.inl ⟨by kernel_rfl, ?_⟩) hHeld ?_
          rotate_left
          focus (intro W hS; have c0_0 := (hS.1).at_ (j := 0) rfl; have c0_1 := (hS.1).at_ (j := 1) rfl; have c0_2 := (hS.1).at_ (j := 2) rfl; have c0_3 := (hS.1).at_ (j := 3) rfl; have c1_0 := (hS.2.1).at_ (j := 0) rfl; have c1_1 := (hS.2.1).at_ (j := 1) rfl; have c1_2 := (hS.2.1).at_ (j := 2) rfl; have c1_3 := (hS.2.1).at_ (j := 3) rfl; have c1_4 := (hS.2.1).at_ (j := 4) rfl; have c1_5 := (hS.2.1).at_ (j := 5) rfl; clear hS; first | (go_simp; done) | (go_simp; with_reducible rfl))
          try simp only [Act.put, List.setIfInBounds_toArray, List.set_cons_zero, List.set_cons_succ]
          refine wpAnyH_take (i := 2) (oi := ⟨some 34, _, _, _, _, _⟩) (v := ?_) rfl (by kernel_rfl) (by kernel_rfl) (by kernel_rfl) (fun _ _ _ h => h) (Or.inl ⟨by kernel_rfl, ?_⟩) hHeld ?_
          rotate_left
          focus (intro W hS; skip; clear hS; first | (go_simp; done) | (go_simp; with_reducible rfl))
          try simp only [Act.put, List.setIfInBounds_toArray, List.set_cons_zero, List.set_cons_succ]
          refine wpAnyH_take (i := 3) (oi := ⟨some 35, _, _, _, _, _⟩) (v := ?_) rfl (by kernel_rfl) (by kernel_rfl) (by kernel_rfl) (fun _ _ _ h => h) (Or.inl ⟨by kernel_rfl, ?_⟩) hHeld ?_
          rotate_left
          focus (intro W hS; have c0_0 := (hS.1).at_ (j := 0) rfl; have c0_1 := (hS.1).at_ (j := 1) rfl; have c0_2 := (hS.1).at_ (j := 2) rfl; have c0_3 := (hS.1).at_ (j := 3) rfl; have c1_0 := (hS.2.1).at_ (j := 0) rfl; have c1_1 := (hS.2.1).at_ (j := 1) rfl; have c1_2 := (hS.2.1).at_ (j := 2) rfl; have c1_3 := (hS.2.1).at_ (j := 3) rfl; have c1_4 := (hS.2.1).at_ (j := 4) rfl; have c1_5 := (hS.2.1).at_ (j := 5) rfl; clear hS; first | (go_simp; done) | (go_simp; with_reducible rfl))
          try simp only [Act.put, List.setIfInBounds_toArray, List.set_cons_zero, List.set_cons_succ]
          refine wpAnyH_take (i := 4) (oi := ⟨some 36, _, _, _, _, _⟩) (v := ?_) rfl (by kernel_rfl) (by kernel_rfl) (by kernel_rfl) (fun _ _ _ h => h) (Or.inl ⟨by kernel_rfl, ?_⟩) hHeld ?_
          rotate_left
          focus (intro W hS; have c0_0 := (hS.1).at_ (j := 0) rfl; have c0_1 := (hS.1).at_ (j := 1) rfl; have c0_2 := (hS.1).at_ (j := 2) rfl; have c0_3 := (hS.1).at_ (j := 3) rfl; have c1_0 := (hS.2.1).at_ (j := 0) rfl; have c1_1 := (hS.2.1).at_ (j := 1) rfl; have c1_2 := (hS.2.1).at_ (j := 2) rfl; have c1_3 := (hS.2.1).at_ (j := 3) rfl; have c1_4 := (hS.2.1).at_ (j := 4) rfl; have c1_5 := (hS.2.1).at_ (j := 5) rfl; clear hS; first | (go_simp; done) | (go_simp; with_reducible rfl))
          try simp only [Act.put, List.setIfInBounds_toArray, List.set_cons_zero, List.set_cons_succ]
          refine wpAnyH_ready (rs := [5]) (by kernel_rfl) (by simp) ?_
          refine AllReadyH.cons (o := ⟨some 37, _, _, _, _, _⟩) rfl (fun K hK => ?_) AllReadyH.nil
          go_simp
          refine (CK.out _ GM GR hHeld.1 hHeld.2.1 hHeld.2.2).mono ?_
          rintro e x1 ⟨rfl, hm1, hr1, hx1, hs1, hb1⟩
          have HM1 := Lib.hid hm1
          have HR1 := Lib.hid hr1
          clear hm1 hr1 GM GR
          refine hK.out _ _ ⟨hx1, hs1, hb1⟩ (fun hHeld' => ?_)
          clear hx1 hs1 hb1
          clear hK K hHeld
          have hHeld := hHeld'
          clear hHeld'
          try simp only [Act.put, List.setIfInBounds_toArray, List.set_cons_zero, List.set_cons_succ]
          refine wpAnyH_done (by kernel_rfl) ?_ _
          have HKS := Lib.hid hHeld.2.1
          have HBB := Lib.hid hHeld.2.2
          clear hHeld
          go_wp2_with fail
          go_roundg (nl - (k + 1))
          case measure => omega
          case rel => exact ⟨k + 1, by omega, by omega, by go_num, by rw [HT.out]; exact HM1, by rw [HT.out]; exact HR1, HKS, HBB⟩
        · have CK : Hid (∀ W, MCell W g A n c (.func (.func 72) #[] cap) X.v X.b → R X.s W → BoxAt W wr.heap.size 49 #[.int .i64 3, .int .i64 x.f1, .int .i64 x.f2, .int .i64 x.f3] → BoxAt W w2.heap.size 133 #[.nilFunc, .func (.func 102) #[.pointer (some ⟨g, 0, none⟩)] #[], .func (.func 103) #[.pointer (some ⟨g, 0, none⟩)] #[], .func (.func 104) #[.pointer (some ⟨g, 0, none⟩)] #[], .func (.func 105) #[.pointer (some ⟨g, 0, none⟩)] #[], .func (.func 106) #[.pointer (some ⟨g, 0, none⟩)] #[]] → Below B w W → Calls Try.prog 104 #[.pointer (some ⟨g, 0, none⟩), .agg #[.int .i64 3, .int .i64 x.f1, .int .i64 x.f2, .int .i64 x.f3]] W (fun e W' => e = .returned (.tuple #[]) ∧ MCell W' g A n c (.func (.func 72) #[] cap) Y.v Y.b ∧ R Y.s W' ∧ BoxAt W' wr.heap.size 49 #[.int .i64 3, .int .i64 x.f1, .int .i64 x.f2, .int .i64 x.f3] ∧ BoxAt W' w2.heap.size 133 #[.nilFunc, .func (.func 102) #[.pointer (some ⟨g, 0, none⟩)] #[], .func (.func 103) #[.pointer (some ⟨g, 0, none⟩)] #[], .func (.func 104) #[.pointer (some ⟨g, 0, none⟩)] #[], .func (.func 105) #[.pointer (some ⟨g, 0, none⟩)] #[], .func (.func 106) #[.pointer (some ⟨g, 0, none⟩)] #[]] ∧ Below B w W')) := Lib.hid fun W hm hr1 hx hs hb => by
            have h := mc_Add x g A n c lo hi vals (.func (.func 72) #[] cap) X.v X.b W hn (hVR.below hb hhi) hop hk0 HXok.1 HXok.2 hm (by omega) hH
            rw [hk0] at h
            refine h.mono fun e W' hh => ?_
            obtain ⟨rfl, h1, h2⟩ := hh
            have e3 : Y.s = X.s := by rw [HY.out]; show X.s ++ mSd x X.v X.b = X.s; unfold mSd; rw [if_neg (by omega), List.append_nil]
            have hsz : w.heap.size ≤ W.heap.size := hb.size
            rw [e3]
            refine ⟨rfl, by rw [HY.out]; exact h1, HRg.out _ _ _ hr1 h2, hx.chg h2 (by omega), hs.chg h2 (by omega), hb.trans (h2.below (.inl hBg) (by omega))⟩
          rw [hk0] at c0
          have KX := Lib.hid (box_new wr 49 #[.int .i64 3, .int .i64 x.f1, .int .i64 x.f2, .int .i64 x.f3])
          have GM : MCell (wr.alloc (.cells #[.int .i64 3, .int .i64 x.f1, .int .i64 x.f2, .int .i64 x.f3] 49)).drew g A n c (.func (.func 72) #[] cap) X.v X.b := (HM.out.alloc _).drw
          have GR : R X.s (wr.alloc (.cells #[.int .i64 3, .int .i64 x.f1, .int .i64 x.f2, .int .i64 x.f3] 49)).drew := HRn.out _ _ _ HR.out (((Below.refl _ _).alloc (Nat.le_refl _) _).drew)
          have HBx := Lib.hid (show Below B w (wr.alloc (.cells #[.int .i64 3, .int .i64 x.f1, .int .i64 x.f2, .int .i64 x.f3] 49)).drew from (HB.out.alloc (by omega) _).drew)
          have KSx := Lib.hid ((KS.out.alloc_ (.cells #[.int .i64 3, .int .i64 x.f1, .int .i64 x.f2, .int .i64 x.f3] 49)).drw)
          clear hop hk0 HXok hVR HM HR KS HB HVR HSx HRg HY hH hhi
          go_wp2_with fail
          refine wp_region_held_drew (S := fun w' => BoxAt w' wr.heap.size 49 #[.int .i64 3, .int .i64 x.f1, .int .i64 x.f2, .int .i64 x.f3] ∧ BoxAt w' w2.heap.size 133 #[.nilFunc, .func (.func 102) #[.pointer (some ⟨g, 0, none⟩)] #[], .func (.func 103) #[.pointer (some ⟨g, 0, none⟩)] #[], .func (.func 104) #[.pointer (some ⟨g, 0, none⟩)] #[], .func (.func 105) #[.pointer (some ⟨g, 0, none⟩)] #[], .func (.func 106) #[.pointer (some ⟨g, 0, none⟩)] #[]] ∧ Below B w w') (by kernel_rfl) ?_ (fun hHeld => ?_)
          · exact ⟨KX.out.drw, KSx.out, HBx.out⟩
          generalize (World.drew _) = x0 at hHeld GM GR ⊢
          refine wpAnyH_take (i := 0) (oi := ⟨some 32, _, _, _, _, _⟩) (v := ?_) rfl (by kernel_rfl) (by kernel_rfl) (by kernel_rfl) (fun _ _ _ h => h) (Or.inl ⟨by kernel_rfl, ?_⟩) hHeld ?_
          rotate_left
          focus (intro W hS; skip; clear hS; first | (go_simp; done) | (go_simp; with_reducible rfl))
          try simp only [Act.put, List.setIfInBounds_toArray, List.set_cons_zero, List.set_cons_succ]
          refine wpAnyH_take (i := 1) (oi := ⟨some 33, _, _, _, _, _⟩) (v := ?_) rfl (by kernel_rfl) (by kernel_rfl) (by kernel_rfl) (fun _ _ _ h => h) (Or.inl ⟨by kernel_rfl, ?_⟩) hHeld ?_
          rotate_left
          focus (intro W hS; have c0_0 := (hS.1).at_ (j := 0) rfl; have c0_1 := (hS.1).at_ (j := 1) rfl; have c0_2 := (hS.1).at_ (j := 2) rfl; have c0_3 := (hS.1).at_ (j := 3) rfl; have c1_0 := (hS.2.1).at_ (j := 0) rfl; have c1_1 := (hS.2.1).at_ (j := 1) rfl; have c1_2 := (hS.2.1).at_ (j := 2) rfl; have c1_3 := (hS.2.1).at_ (j := 3) rfl; have c1_4 := (hS.2.1).at_ (j := 4) rfl; have c1_5 := (hS.2.1).at_ (j := 5) rfl; clear hS; first | (go_simp; done) | (go_simp; with_reducible rfl))
          try simp only [Act.put, List.setIfInBounds_toArray, List.set_cons_zero, List.set_cons_succ]
          refine wpAnyH_take (i := 2) (oi := ⟨some 34, _, _, _, _, _⟩) (v := ?_) rfl (by kernel_rfl) (by kernel_rfl) (by kernel_rfl) (fun _ _ _ h => h) (Or.inl ⟨by kernel_rfl, ?_⟩) hHeld ?_
          rotate_left
          focus (intro W hS; skip; clear hS; first | (go_simp; done) | (go_simp; with_reducible rfl))
          try simp only [Act.put, List.setIfInBounds_toArray, List.set_cons_zero, List.set_cons_succ]
          refine wpAnyH_take (i := 3) (oi := ⟨some 35, _, _, _, _, _⟩) (v := ?_) rfl (by kernel_rfl) (by kernel_rfl) (by kernel_rfl) (fun _ _ _ h => h) (Or.inl ⟨by kernel_rfl, ?_⟩) hHeld ?_
          rotate_left
          focus (intro W hS; have c0_0 := (hS.1).at_ (j := 0) rfl; have c0_1 := (hS.1).at_ (j := 1) rfl; have c0_2 := (hS.1).at_ (j := 2) rfl; have c0_3 := (hS.1).at_ (j := 3) rfl; have c1_0 := (hS.2.1).at_ (j := 0) rfl; have c1_1 := (hS.2.1).at_ (j := 1) rfl; have c1_2 := (hS.2.1).at_ (j := 2) rfl; have c1_3 := (hS.2.1).at_ (j := 3) rfl; have c1_4 := (hS.2.1).at_ (j := 4) rfl; have c1_5 := (hS.2.1).at_ (j := 5) rfl; clear hS; first | (go_simp; done) | (go_simp; with_reducible rfl))
          try simp only [Act.put, List.setIfInBounds_toArray, List.set_cons_zero, List.set_cons_succ]
          refine wpAnyH_take (i := 4) (oi := ⟨some 36, _, _, _, _, _⟩) (v := ?_) rfl (by kernel_rfl) (by kernel_rfl) (by kernel_rfl) (fun _ _ _ h => h) (Or.inl ⟨by kernel_rfl, ?_⟩) hHeld ?_
          rotate_left
          focus (intro W hS; have c0_0 := (hS.1).at_ (j := 0) rfl; have c0_1 := (hS.1).at_ (j := 1) rfl; have c0_2 := (hS.1).at_ (j := 2) rfl; have c0_3 := (hS.1).at_ (j := 3) rfl; have c1_0 := (hS.2.1).at_ (j := 0) rfl; have c1_1 := (hS.2.1).at_ (j := 1) rfl; have c1_2 := (hS.2.1).at_ (j := 2) rfl; have c1_3 := (hS.2.1).at_ (j := 3) rfl; have c1_4 := (hS.2.1).at_ (j := 4) rfl; have c1_5 := (hS.2.1).at_ (j := 5) rfl; clear hS; first | (go_simp; done) | (go_simp; with_reducible rfl))
          try simp only [Act.put, List.setIfInBounds_toArray, List.set_cons_zero, List.set_cons_succ]
          refine wpAnyH_ready (rs := [5]) (by kernel_rfl) (by simp) ?_
          refine AllReadyH.cons (o := ⟨some 37, _, _, _, _, _⟩) rfl (fun K hK => ?_) AllReadyH.nil
          go_simp
          refine (CK.out _ GM GR hHeld.1 hHeld.2.1 hHeld.2.2).mono ?_
          rintro e x1 ⟨rfl, hm1, hr1, hx1, hs1, hb1⟩
          have HM1 := Lib.hid hm1
          have HR1 := Lib.hid hr1
          clear hm1 hr1 GM GR
          refine hK.out _ _ ⟨hx1, hs1, hb1⟩ (fun hHeld' => ?_)
          clear hx1 hs1 hb1
          clear hK K hHeld
          have hHeld := hHeld'
          clear hHeld'
          try simp only [Act.put, List.setIfInBounds_toArray, List.set_cons_zero, List.set_cons_succ]
          refine wpAnyH_done (by kernel_rfl) ?_ _
          have HKS := Lib.hid hHeld.2.1
          have HBB := Lib.hid hHeld.2.2
          clear hHeld
          go_wp2_with fail
          go_roundg (nl - (k + 1))
          case measure => omega
          case rel => exact ⟨k + 1, by omega, by omega, by go_num, by rw [HT.out]; exact HM1, by rw [HT.out]; exact HR1, HKS, HBB⟩
        · have CK : Hid (∀ W, MCell W g A n c (.func (.func 72) #[] cap) X.v X.b → R X.s W → BoxAt W wr.heap.size 49 #[.int .i64 4, .int .i64 x.f1, .int .i64 x.f2, .int .i64 x.f3] → BoxAt W w2.heap.size 133 #[.nilFunc, .func (.func 102) #[.pointer (some ⟨g, 0, none⟩)] #[], .func (.func 103) #[.pointer (some ⟨g, 0, none⟩)] #[], .func (.func 104) #[.pointer (some ⟨g, 0, none⟩)] #[], .func (.func 105) #[.pointer (some ⟨g, 0, none⟩)] #[], .func (.func 106) #[.pointer (some ⟨g, 0, none⟩)] #[]] → Below B w W → Calls Try.prog 105 #[.pointer (some ⟨g, 0, none⟩), .agg #[.int .i64 4, .int .i64 x.f1, .int .i64 x.f2, .int .i64 x.f3]] W (fun e W' => e = .returned (.tuple #[]) ∧ MCell W' g A n c (.func (.func 72) #[] cap) Y.v Y.b ∧ R Y.s W' ∧ BoxAt W' wr.heap.size 49 #[.int .i64 4, .int .i64 x.f1, .int .i64 x.f2, .int .i64 x.f3] ∧ BoxAt W' w2.heap.size 133 #[.nilFunc, .func (.func 102) #[.pointer (some ⟨g, 0, none⟩)] #[], .func (.func 103) #[.pointer (some ⟨g, 0, none⟩)] #[], .func (.func 104) #[.pointer (some ⟨g, 0, none⟩)] #[], .func (.func 105) #[.pointer (some ⟨g, 0, none⟩)] #[], .func (.func 106) #[.pointer (some ⟨g, 0, none⟩)] #[]] ∧ Below B w W')) := Lib.hid fun W hm hr1 hx hs hb => by
            have h := mc_Choose x g A n c lo hi vals (.func (.func 72) #[] cap) X.v X.b W hn (hVR.below hb hhi) hop hk0 HXok.1 HXok.2 hm (by omega) hH
            rw [hk0] at h
            refine h.mono fun e W' hh => ?_
            obtain ⟨rfl, h1, h2⟩ := hh
            have e3 : Y.s = X.s := by rw [HY.out]; show X.s ++ mSd x X.v X.b = X.s; unfold mSd; rw [if_neg (by omega), List.append_nil]
            have hsz : w.heap.size ≤ W.heap.size := hb.size
            rw [e3]
            refine ⟨rfl, by rw [HY.out]; exact h1, HRg.out _ _ _ hr1 h2, hx.chg h2 (by omega), hs.chg h2 (by omega), hb.trans (h2.below (.inl hBg) (by omega))⟩
          rw [hk0] at c0
          have KX := Lib.hid (box_new wr 49 #[.int .i64 4, .int .i64 x.f1, .int .i64 x.f2, .int .i64 x.f3])
          have GM : MCell (wr.alloc (.cells #[.int .i64 4, .int .i64 x.f1, .int .i64 x.f2, .int .i64 x.f3] 49)).drew g A n c (.func (.func 72) #[] cap) X.v X.b := (HM.out.alloc _).drw
          have GR : R X.s (wr.alloc (.cells #[.int .i64 4, .int .i64 x.f1, .int .i64 x.f2, .int .i64 x.f3] 49)).drew := HRn.out _ _ _ HR.out (((Below.refl _ _).alloc (Nat.le_refl _) _).drew)
          have HBx := Lib.hid (show Below B w (wr.alloc (.cells #[.int .i64 4, .int .i64 x.f1, .int .i64 x.f2, .int .i64 x.f3] 49)).drew from (HB.out.alloc (by omega) _).drew)
          have KSx := Lib.hid ((KS.out.alloc_ (.cells #[.int .i64 4, .int .i64 x.f1, .int .i64 x.f2, .int .i64 x.f3] 49)).drw)
          clear hop hk0 HXok hVR HM HR KS HB HVR HSx HRg HY hH hhi
          go_wp2_with fail
          refine wp_region_held_drew (S := fun w' => BoxAt w' wr.heap.size 49 #[.int .i64 4, .int .i64 x.f1, .int .i64 x.f2, .int .i64 x.f3] ∧ BoxAt w' w2.heap.size 133 #[.nilFunc, .func (.func 102) #[.pointer (some ⟨g, 0, none⟩)] #[], .func (.func 103) #[.pointer (some ⟨g, 0, none⟩)] #[], .func (.func 104) #[.pointer (some ⟨g, 0, none⟩)] #[], .func (.func 105) #[.pointer (some ⟨g, 0, none⟩)] #[], .func (.func 106) #[.pointer (some ⟨g, 0, none⟩)] #[]] ∧ Below B w w') (by kernel_rfl) ?_ (fun hHeld => ?_)
          · exact ⟨KX.out.drw, KSx.out, HBx.out⟩
          generalize (World.drew _) = x0 at hHeld GM GR ⊢
          refine wpAnyH_take (i := 0) (oi := ⟨some 32, _, _, _, _, _⟩) (v := ?_) rfl (by kernel_rfl) (by kernel_rfl) (by kernel_rfl) (fun _ _ _ h => h) (Or.inl ⟨by kernel_rfl, ?_⟩) hHeld ?_
          rotate_left
          focus (intro W hS; skip; clear hS; first | (go_simp; done) | (go_simp; with_reducible rfl))
          try simp only [Act.put, List.setIfInBounds_toArray, List.set_cons_zero, List.set_cons_succ]
          refine wpAnyH_take (i := 1) (oi := ⟨some 33, _, _, _, _, _⟩) (v := ?_) rfl (by kernel_rfl) (by kernel_rfl) (by kernel_rfl) (fun _ _ _ h => h) (Or.inl ⟨by kernel_rfl, ?_⟩) hHeld ?_
          rotate_left
          focus (intro W hS; have c0_0 := (hS.1).at_ (j := 0) rfl; have c0_1 := (hS.1).at_ (j := 1) rfl; have c0_2 := (hS.1).at_ (j := 2) rfl; have c0_3 := (hS.1).at_ (j := 3) rfl; have c1_0 := (hS.2.1).at_ (j := 0) rfl; have c1_1 := (hS.2.1).at_ (j := 1) rfl; have c1_2 := (hS.2.1).at_ (j := 2) rfl; have c1_3 := (hS.2.1).at_ (j := 3) rfl; have c1_4 := (hS.2.1).at_ (j := 4) rfl; have c1_5 := (hS.2.1).at_ (j := 5) rfl; clear hS; first | (go_simp; done) | (go_simp; with_reducible rfl))
          try simp only [Act.put, List.setIfInBounds_toArray, List.set_cons_zero, List.set_cons_succ]
          refine wpAnyH_take (i := 2) (oi := ⟨some 34, _, _, _, _, _⟩) (v := ?_) rfl (by kernel_rfl) (by kernel_rfl) (by kernel_rfl) (fun _ _ _ h => h) (Or.inl ⟨by kernel_rfl, ?_⟩) hHeld ?_
          rotate_left
          focus (intro W hS; skip; clear hS; first | (go_simp; done) | (go_simp; with_reducible rfl))
          try simp only [Act.put, List.setIfInBounds_toArray, List.set_cons_zero, List.set_cons_succ]
          refine wpAnyH_take (i := 3) (oi := ⟨some 35, _, _, _, _, _⟩) (v := ?_) rfl (by kernel_rfl) (by kernel_rfl) (by kernel_rfl) (fun _ _ _ h => h) (Or.inl ⟨by kernel_rfl, ?_⟩) hHeld ?_
          rotate_left
          focus (intro W hS; have c0_0 := (hS.1).at_ (j := 0) rfl; have c0_1 := (hS.1).at_ (j := 1) rfl; have c0_2 := (hS.1).at_ (j := 2) rfl; have c0_3 := (hS.1).at_ (j := 3) rfl; have c1_0 := (hS.2.1).at_ (j := 0) rfl; have c1_1 := (hS.2.1).at_ (j := 1) rfl; have c1_2 := (hS.2.1).at_ (j := 2) rfl; have c1_3 := (hS.2.1).at_ (j := 3) rfl; have c1_4 := (hS.2.1).at_ (j := 4) rfl; have c1_5 := (hS.2.1).at_ (j := 5) rfl; clear hS; first | (go_simp; done) | (go_simp; with_reducible rfl))
          try simp only [Act.put, List.setIfInBounds_toArray, List.set_cons_zero, List.set_cons_succ]
          refine wpAnyH_take (i := 4) (oi := ⟨some 36, _, _, _, _, _⟩) (v := ?_) rfl (by kernel_rfl) (by kernel_rfl) (by kernel_rfl) (fun _ _ _ h => h) (Or.inl ⟨by kernel_rfl, ?_⟩) hHeld ?_
          rotate_left
          focus (intro W hS; have c0_0 := (hS.1).at_ (j := 0) rfl; have c0_1 := (hS.1).at_ (j := 1) rfl; have c0_2 := (hS.1).at_ (j := 2) rfl; have c0_3 := (hS.1).at_ (j := 3) rfl; have c1_0 := (hS.2.1).at_ (j := 0) rfl; have c1_1 := (hS.2.1).at_ (j := 1) rfl; have c1_2 := (hS.2.1).at_ (j := 2) rfl; have c1_3 := (hS.2.1).at_ (j := 3) rfl; have c1_4 := (hS.2.1).at_ (j := 4) rfl; have c1_5 := (hS.2.1).at_ (j := 5) rfl; clear hS; first | (go_simp; done) | (go_simp; with_reducible rfl))
          try simp only [Act.put, List.setIfInBounds_toArray, List.set_cons_zero, List.set_cons_succ]
          refine wpAnyH_ready (rs := [5]) (by kernel_rfl) (by simp) ?_
          refine AllReadyH.cons (o := ⟨some 37, _, _, _, _, _⟩) rfl (fun K hK => ?_) AllReadyH.nil
          go_simp
          refine (CK.out _ GM GR hHeld.1 hHeld.2.1 hHeld.2.2).mono ?_
          rintro e x1 ⟨rfl, hm1, hr1, hx1, hs1, hb1⟩
          have HM1 := Lib.hid hm1
          have HR1 := Lib.hid hr1
          clear hm1 hr1 GM GR
          refine hK.out _ _ ⟨hx1, hs1, hb1⟩ (fun hHeld' => ?_)
          clear hx1 hs1 hb1
          clear hK K hHeld
          have hHeld := hHeld'
          clear hHeld'
          try simp only [Act.put, List.setIfInBounds_toArray, List.set_cons_zero, List.set_cons_succ]
          refine wpAnyH_done (by kernel_rfl) ?_ _
          have HKS := Lib.hid hHeld.2.1
          have HBB := Lib.hid hHeld.2.2
          clear hHeld
          go_wp2_with fail
          go_roundg (nl - (k + 1))
          case measure => omega
          case rel => exact ⟨k + 1, by omega, by omega, by go_num, by rw [HT.out]; exact HM1, by rw [HT.out]; exact HR1, HKS, HBB⟩
        · have CK : Hid (∀ W, MCell W g A n c (.func (.func 72) #[] cap) X.v X.b → R X.s W → BoxAt W wr.heap.size 49 #[.int .i64 5, .int .i64 x.f1, .int .i64 x.f2, .int .i64 x.f3] → BoxAt W w2.heap.size 133 #[.nilFunc, .func (.func 102) #[.pointer (some ⟨g, 0, none⟩)] #[], .func (.func 103) #[.pointer (some ⟨g, 0, none⟩)] #[], .func (.func 104) #[.pointer (some ⟨g, 0, none⟩)] #[], .func (.func 105) #[.pointer (some ⟨g, 0, none⟩)] #[], .func (.func 106) #[.pointer (some ⟨g, 0, none⟩)] #[]] → Below B w W → Calls Try.prog 106 #[.pointer (some ⟨g, 0, none⟩), .agg #[.int .i64 5, .int .i64 x.f1, .int .i64 x.f2, .int .i64 x.f3]] W (fun e W' => e = .returned (.tuple #[]) ∧ MCell W' g A n c (.func (.func 72) #[] cap) Y.v Y.b ∧ R Y.s W' ∧ BoxAt W' wr.heap.size 49 #[.int .i64 5, .int .i64 x.f1, .int .i64 x.f2, .int .i64 x.f3] ∧ BoxAt W' w2.heap.size 133 #[.nilFunc, .func (.func 102) #[.pointer (some ⟨g, 0, none⟩)] #[], .func (.func 103) #[.pointer (some ⟨g, 0, none⟩)] #[], .func (.func 104) #[.pointer (some ⟨g, 0, none⟩)] #[], .func (.func 105) #[.pointer (some ⟨g, 0, none⟩)] #[], .func (.func 106) #[.pointer (some ⟨g, 0, none⟩)] #[]] ∧ Below B w W')) := Lib.hid fun W hm hr1 hx hs hb => by
            have h := mc_Send_Rn x g q base E A n c cap X.v X.b X.s R W hop hk0 HXok.1 HXok.2 hm hgq (by have := hb.size; omega) hgb hTO hr1 HRn.out (fun W2 t0 z y h1 h2 h3 h4 h5 => HSx.out X.s W2 t0 z y h1 HXs.out h2 h3 h4 (hb.trans (h5.mono (by have := hb.size; omega))))
            rw [hk0] at h
            refine h.mono fun e W' hh => ?_
            obtain ⟨rfl, h1, h3, h2⟩ := hh
            have hsz : w.heap.size ≤ W.heap.size := hb.size
            have e1 : mStV x [] X.v = mStV x vals X.v := by unfold mStV; simp [hk0]
            rw [e1] at h1
            refine ⟨rfl, by rw [HY.out]; exact h1, by rw [HY.out]; exact h3, h2.box hx (by omega) hTO, h2.box hs (by omega) hT6, hb.trans (h2.below hBq (by omega) (by omega))⟩
          rw [hk0] at c0
          have KX := Lib.hid (box_new wr 49 #[.int .i64 5, .int .i64 x.f1, .int .i64 x.f2, .int .i64 x.f3])
          have GM : MCell (wr.alloc (.cells #[.int .i64 5, .int .i64 x.f1, .int .i64 x.f2, .int .i64 x.f3] 49)).drew g A n c (.func (.func 72) #[] cap) X.v X.b := (HM.out.alloc _).drw
          have GR : R X.s (wr.alloc (.cells #[.int .i64 5, .int .i64 x.f1, .int .i64 x.f2, .int .i64 x.f3] 49)).drew := HRn.out _ _ _ HR.out (((Below.refl _ _).alloc (Nat.le_refl _) _).drew)
          have HBx := Lib.hid (show Below B w (wr.alloc (.cells #[.int .i64 5, .int .i64 x.f1, .int .i64 x.f2, .int .i64 x.f3] 49)).drew from (HB.out.alloc (by omega) _).drew)
          have KSx := Lib.hid ((KS.out.alloc_ (.cells #[.int .i64 5, .int .i64 x.f1, .int .i64 x.f2, .int .i64 x.f3] 49)).drw)
          clear hop hk0 HXok hVR HM HR KS HB HVR HSx HRg HY hH hhi
          go_wp2_with fail
          refine wp_region_held_drew (S := fun w' => BoxAt w' wr.heap.size 49 #[.int .i64 5, .int .i64 x.f1, .int .i64 x.f2, .int .i64 x.f3] ∧ BoxAt w' w2.heap.size 133 #[.nilFunc, .func (.func 102) #[.pointer (some ⟨g, 0, none⟩)] #[], .func (.func 103) #[.pointer (some ⟨g, 0, none⟩)] #[], .func (.func 104) #[.pointer (some ⟨g, 0, none⟩)] #[], .func (.func 105) #[.pointer (some ⟨g, 0, none⟩)] #[], .func (.func 106) #[.pointer (some ⟨g, 0, none⟩)] #[]] ∧ Below B w w') (by kernel_rfl) ?_ (fun hHeld => ?_)
          · exact ⟨KX.out.drw, KSx.out, HBx.out⟩
          generalize (World.drew _) = x0 at hHeld GM GR ⊢
          refine wpAnyH_take (i := 0) (oi := ⟨some 32, _, _, _, _, _⟩) (v := ?_) rfl (by kernel_rfl) (by kernel_rfl) (by kernel_rfl) (fun _ _ _ h => h) (Or.inl ⟨by kernel_rfl, ?_⟩) hHeld ?_
          rotate_left
          focus (intro W hS; skip; clear hS; first | (go_simp; done) | (go_simp; with_reducible rfl))
          try simp only [Act.put, List.setIfInBounds_toArray, List.set_cons_zero, List.set_cons_succ]
          refine wpAnyH_take (i := 1) (oi := ⟨some 33, _, _, _, _, _⟩) (v := ?_) rfl (by kernel_rfl) (by kernel_rfl) (by kernel_rfl) (fun _ _ _ h => h) (Or.inl ⟨by kernel_rfl, ?_⟩) hHeld ?_
          rotate_left
          focus (intro W hS; have c0_0 := (hS.1).at_ (j := 0) rfl; have c0_1 := (hS.1).at_ (j := 1) rfl; have c0_2 := (hS.1).at_ (j := 2) rfl; have c0_3 := (hS.1).at_ (j := 3) rfl; have c1_0 := (hS.2.1).at_ (j := 0) rfl; have c1_1 := (hS.2.1).at_ (j := 1) rfl; have c1_2 := (hS.2.1).at_ (j := 2) rfl; have c1_3 := (hS.2.1).at_ (j := 3) rfl; have c1_4 := (hS.2.1).at_ (j := 4) rfl; have c1_5 := (hS.2.1).at_ (j := 5) rfl; clear hS; first | (go_simp; done) | (go_simp; with_reducible rfl))
          try simp only [Act.put, List.setIfInBounds_toArray, List.set_cons_zero, List.set_cons_succ]
          refine wpAnyH_take (i := 2) (oi := ⟨some 34, _, _, _, _, _⟩) (v := ?_) rfl (by kernel_rfl) (by kernel_rfl) (by kernel_rfl) (fun _ _ _ h => h) (Or.inl ⟨by kernel_rfl, ?_⟩) hHeld ?_
          rotate_left
          focus (intro W hS; skip; clear hS; first | (go_simp; done) | (go_simp; with_reducible rfl))
          try simp only [Act.put, List.setIfInBounds_toArray, List.set_cons_zero, List.set_cons_succ]
          refine wpAnyH_take (i := 3) (oi := ⟨some 35, _, _, _, _, _⟩) (v := ?_) rfl (by kernel_rfl) (by kernel_rfl) (by kernel_rfl) (fun _ _ _ h => h) (Or.inl ⟨by kernel_rfl, ?_⟩) hHeld ?_
          rotate_left
          focus (intro W hS; have c0_0 := (hS.1).at_ (j := 0) rfl; have c0_1 := (hS.1).at_ (j := 1) rfl; have c0_2 := (hS.1).at_ (j := 2) rfl; have c0_3 := (hS.1).at_ (j := 3) rfl; have c1_0 := (hS.2.1).at_ (j := 0) rfl; have c1_1 := (hS.2.1).at_ (j := 1) rfl; have c1_2 := (hS.2.1).at_ (j := 2) rfl; have c1_3 := (hS.2.1).at_ (j := 3) rfl; have c1_4 := (hS.2.1).at_ (j := 4) rfl; have c1_5 := (hS.2.1).at_ (j := 5) rfl; clear hS; first | (go_simp; done) | (go_simp; with_reducible rfl))
          try simp only [Act.put, List.setIfInBounds_toArray, List.set_cons_zero, List.set_cons_succ]
          refine wpAnyH_take (i := 4) (oi := ⟨some 36, _, _, _, _, _⟩) (v := ?_) rfl (by kernel_rfl) (by kernel_rfl) (by kernel_rfl) (fun _ _ _ h => h) (Or.inl ⟨by kernel_rfl, ?_⟩) hHeld ?_
          rotate_left
          focus (intro W hS; have c0_0 := (hS.1).at_ (j := 0) rfl; have c0_1 := (hS.1).at_ (j := 1) rfl; have c0_2 := (hS.1).at_ (j := 2) rfl; have c0_3 := (hS.1).at_ (j := 3) rfl; have c1_0 := (hS.2.1).at_ (j := 0) rfl; have c1_1 := (hS.2.1).at_ (j := 1) rfl; have c1_2 := (hS.2.1).at_ (j := 2) rfl; have c1_3 := (hS.2.1).at_ (j := 3) rfl; have c1_4 := (hS.2.1).at_ (j := 4) rfl; have c1_5 := (hS.2.1).at_ (j := 5) rfl; clear hS; first | (go_simp; done) | (go_simp; with_reducible rfl))
          try simp only [Act.put, List.setIfInBounds_toArray, List.set_cons_zero, List.set_cons_succ]
          refine wpAnyH_ready (rs := [5]) (by kernel_rfl) (by simp) ?_
          refine AllReadyH.cons (o := ⟨some 37, _, _, _, _, _⟩) rfl (fun K hK => ?_) AllReadyH.nil
          go_simp
          refine (CK.out _ GM GR hHeld.1 hHeld.2.1 hHeld.2.2).mono ?_
          rintro e x1 ⟨rfl, hm1, hr1, hx1, hs1, hb1⟩
          have HM1 := Lib.hid hm1
          have HR1 := Lib.hid hr1
          clear hm1 hr1 GM GR
          refine hK.out _ _ ⟨hx1, hs1, hb1⟩ (fun hHeld' => ?_)
          clear hx1 hs1 hb1
          clear hK K hHeld
          have hHeld := hHeld'
          clear hHeld'
          try simp only [Act.put, List.setIfInBounds_toArray, List.set_cons_zero, List.set_cons_succ]
          refine wpAnyH_done (by kernel_rfl) ?_ _
          have HKS := Lib.hid hHeld.2.1
          have HBB := Lib.hid hHeld.2.2
          clear hHeld
          go_wp2_with fail
          go_roundg (nl - (k + 1))
          case measure => omega
          case rel => exact ⟨k + 1, by omega, by omega, by go_num, by rw [HT.out]; exact HM1, by rw [HT.out]; exact HR1, HKS, HBB⟩
      · obtain rfl : k = nl := by omega
        have hh : l.take k = l := List.take_of_length_le (by rw [HL.out]; omega)
        rw [hh] at HM HR
        clear hh
        go_wp2_with fail
        go_ret
        exact ⟨rfl, HM.out, HR.out, HB.out⟩

end Go.Proofs.Ytcankpiidjhhpaa
