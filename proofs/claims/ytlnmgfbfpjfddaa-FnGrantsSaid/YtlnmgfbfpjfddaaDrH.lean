/- Draws of FnGrants. No condition of its own. -/
import Derived.Test.YtlnmgfbfpjfddaaDrG
import Derived.Test.YtlnmgfbfpjfddaaDrT
import Derived.Test.YtlnmgfbfpjfddaaFun
import Derived.Test.YtlnmgfbfpjfddaaClr
import Derived.Deep.Cut
import Derived.Deep.LoopGhost
import Derived.Deep.RegionHeld3
import Derived.Deep.MidRow
import Derived.Lib.LazyBuf
namespace Go.Proofs.Ytlnmgfbfpjfddaa
open Go Go.ChangeShapes Go.WideShapes Go.ChangeAt Go.RowKit Go.Lib
set_option linter.unusedVariables false
set_option linter.unusedSimpArgs false
set_option maxRecDepth 100000
theorem own_row {W : World} {B b z m : Nat} {E : TypeId} {v : Value} {xs : List Value} (h : W.ownsRow B E z v m xs) (hb : b < B) (cs : Array Value) : (W.setRow b cs).ownsRow B E z v m xs := by
  refine ⟨h.1, ?_⟩
  rcases h.2 with h0 | ⟨k, c, cur, hv, hk, hr, rest⟩
  · exact .inl h0
  · exact .inr ⟨k, c, cur, hv, hk, (setRow_other W b k cs (by omega)).trans hr, rest⟩
theorem fr_grown {w w1 : World} {lo hi z m c g : Nat} {E : TypeId} {A : Option Addr} {xs : List Value} (h : Fr w lo hi E z A m c xs) (hg : w.grownBy w1 (some g)) (hl : g < lo) : Fr w1 lo hi E z A m c xs :=
  h.keep fun b h1 _ h3 => hg.block b h3 (by intro e; injection e; omega)
theorem box_own {w w1 : World} {b : Nat} {t : TypeId} {cs : Array Value} {r : Option Nat} (h : BoxAt w b t cs) (hg : w.grownBy w1 r) (hr : r ≠ some b) : BoxAt w1 b t cs := (hg.block b h.lt (fun e => hr e.symm)).trans h
section
variable {P : Program} {w : World}
/-- wp_app_litg, and where the list lies afterwards. -/
theorem wp_app_lith {ops : Array Oper} {rest : List Oper} {o : Oper} {a : Act} {Q : Exit → Act → World → Prop} (hgd : o.guard = none) (s x : Operand) (t : TypeId)
  (ho : o.op = .call { callee := .builtin .append, args := #[s, x], argTypes := #[t, t] })
  (base : Nat) (e : TypeId) (z : Value) (size bytes : Nat) (ht : P.underlying t = some (.slice e)) (hinfo : (P.info? e).map (fun i => (i.zero, i.size, i.bytes)) = some (some z, size, bytes))
  (hzs : z.cells.size = size) (hsz : 0 < size) (v : Value) (n : Nat) (xs : List Value) (hs : a.eval s = v) (hown : w.ownsRow base e size v n xs)
  (us : Array Value) (m c g : Nat) (hx : a.eval x = .slice (some ⟨g, 0, none⟩) m c) (hg : g = w.heap.size) (hus : us.size = m * size) (h1 : ∀ u ∈ us.toList, u.oneCell' = true)
  (h63 : n + m ≤ maxLen) (hbytes : (n + m) * bytes ≤ 140737488355328) (hbase : base ≤ w.heap.size)
  (h : ∀ v' w', w'.ownsRow base e size v' (n + m) (xs ++ us.toList) → Below base w w' → (w.alloc (.cells us e)).grownBy w' v.ownBlock → (v'.ownBlock = v.ownBlock ∨ v'.ownBlock = some (w.heap.size + 1)) → wpList P ops Q rest (a.put o.dst v') w') : wpList P ops Q (o :: rest) a (w.alloc (.cells us e)) := by
 subst hg
 exact wp_app hgd s x t ho base e z size bytes ht hinfo hzs hsz v n xs hs (hown.alloc _) _ _ _ m c us.toList hx (rd_lit w us e m size hus) h1 h63 hbytes (by simp; omega)
  fun v' w' h2 h3 h4 h5 => h v' w' h2 (((Below.refl _ _).alloc hbase _).trans h3) h4 (by simpa using h5)
end
/-- The same, with a list of the draw's own besides. -/
def DatO (w : World) (g : Nat) (A : Option Addr) (n cap : Nat) (rs : List (Nat × TypeId × Nat)) (B : Nat) (E : TypeId) (z : Nat) (v : Value) (m : Nat) (xs : List Value) (W : World) : Prop :=
  DatT w g A n cap rs W ∧ W.ownsRow B E z v m xs ∧ g < B
section
variable {w W W1 : World} {g n cap B z m : Nat} {A : Option Addr} {rs : List (Nat × TypeId × Nat)} {E : TypeId} {v : Value} {xs : List Value}
theorem DatO.cur (h : DatO w g A n cap rs B E z v m xs W) (hb : BytesAt w w.heap.size A n) (hg : w.heap.size ≤ g) : Cur W g A n cap := h.1.cur hb hg
theorem DatO.call (h : DatO w g A n cap rs B E z v m xs W) (hc : Cur W1 g A n cap) (hg : W.grownBy W1 (some g)) (hr : ∀ r ∈ rs, r.1 ≠ g) (hl : w.heap.size ≤ g) : DatO w g A n cap rs B E z v m xs W1 :=
  ⟨h.1.call hc hg hr hl, dr_own h.2.1 h.2.2 hg, h.2.2⟩
theorem DatO.row (h : DatO w g A n cap rs B E z v m xs W) (b : Nat) (hb : b < g) (hl : w.heap.size ≤ b) (cs : Array Value) (hsz : ∀ r ∈ rs, r.1 = b → cs.size = r.2.2) : DatO w g A n cap rs B E z v m xs (W.setRow b cs) :=
  ⟨h.1.row b (by omega) hl cs hsz, own_row h.2.1 (by have := h.2.2; omega) cs, h.2.2⟩
theorem DatO.mk_ (ho : W.ownsRow B E z v m xs) (hB : g < B) (hb : Below w.heap.size w W) (hc : Cur W g A n cap) (hr : ∀ r ∈ rs, ∃ cs : Array Value, cs.size = r.2.2 ∧ BoxAt W r.1 r.2.1 cs) : DatO w g A n cap rs B E z v m xs W :=
  ⟨DatT.mk_ hb hc hr, ho, hB⟩
theorem DatO.drw (h : DatO w g A n cap rs B E z v m xs W) : DatO w g A n cap rs B E z v m xs W.drew := ⟨h.1.drw, h.2.1, h.2.2⟩
end
/-- A list of grants, an extension, a site, a kind, a time and a click are drawn. -/
def DrawnIA (w : World) (e : Ending) (w' : World) : Prop :=
  ∃ (A : Option Addr) (c : Nat) (l : List TGrant) (x : Int) (s : TSite) (k t : Int) (b : Bool), e = .returned (.tuple #[.slice A l.length c, .int .i64 x, .agg #[.int .i64 s.f0, .int .i64 s.f1], .int .i64 k, .int .i64 t, .bool b]) ∧ l.length ≤ 6 ∧ (∀ y ∈ l, y.fit) ∧ 0 ≤ x ∧ x ≤ 3 ∧ s.fit ∧ 0 ≤ k ∧ k ≤ 4 ∧ 0 ≤ t ∧ t ≤ 17 ∧ Rd w' w.heap.size w'.heap.size 7 A l.length (cGrant l) ∧ Below w.heap.size w w'
set_option maxHeartbeats 16000000 in
theorem drawIA_any (n cap : Nat) (A : Option Addr) (w : World) (hn : n ≤ 140737488355328) (hb : BytesAt w w.heap.size A n) :
    Calls Try.prog 23 #[.slice A n cap] w (DrawnIA w) := by
  have hn' : n ≤ maxLen := by unfold maxLen; omega
  have HY := Lib.hid hb
  have R0 := Lib.hid (show BoxAt (w.alloc (.cells #[.int .i64 0, .int .i64 0] 26)) w.heap.size 26 #[.int .i64 0, .int .i64 0] from by simpa using box_new w 26 #[.int .i64 0, .int .i64 0])
  have HB := Lib.hid ((Below.refl w.heap.size w).alloc (by first | exact Nat.le_refl _ | (simp; done) | (simp; omega)) (.cells #[.int .i64 0, .int .i64 0] 26))
  clear hb
  go_enter Try.func23, Try.ntmps23
  go_wp2_with fail
  refine Calls.mono (dr_new n cap A w _ (w.heap.size + 1) (by simp) hn HY.out HB.out) ?_
  rintro e w1 ⟨rfl, hc, hb1⟩
  have HC := Lib.hid hc
  replace R0 := Lib.hid (dr_box_low R0.out hb1 (by omega))
  replace HB := Lib.hid (HB.out.trans (hb1.mono (by omega)))
  have l1 : (w.heap.size + 1) < w1.heap.size := HC.out.lt
  clear hc hb1
  go_wp2_with fail
  refine Calls.mono (grants_any (w.heap.size + 1) n cap A _ hn' HC.out) ?_
  rintro e w2 ⟨v, l, rfl, hl, hu, ho, hc, hg⟩
  replace R0 := Lib.hid (R0.out.grown hg (by omega))
  replace HB := Lib.hid (dr_below HB.out (by omega) hg)
  replace HC := Lib.hid hc
  have l2 : (w.heap.size + 1) < w2.heap.size := HC.out.lt
  clear hc hg
  have HO := Lib.hid ho
  have HU := Lib.hid hu
  clear ho hu
  go_wp2_with fail
  refine Calls.mono (below_any (w.heap.size + 1) n cap A 3 _ hn' HC.out (by omega) (by omega)) ?_
  rintro e w3 ⟨ye, hea, heb, rfl, hc, hg⟩
  replace R0 := Lib.hid (R0.out.grown hg (by omega))
  replace HO := Lib.hid (dr_own HO.out (by omega) hg)
  replace HB := Lib.hid (dr_below HB.out (by omega) hg)
  replace HC := Lib.hid hc
  have l3 : (w.heap.size + 1) < w3.heap.size := HC.out.lt
  clear hc hg
  go_wp2_with fail
  refine Calls.mono (site_any (w.heap.size + 1) n cap A _ hn' HC.out) ?_
  rintro e w4 ⟨s, hs, rfl, hc, hg⟩
  replace R0 := Lib.hid (R0.out.grown hg (by omega))
  replace HO := Lib.hid (dr_own HO.out (by omega) hg)
  replace HB := Lib.hid (dr_below HB.out (by omega) hg)
  replace HC := Lib.hid hc
  have l4 : (w.heap.size + 1) < w4.heap.size := HC.out.lt
  clear hc hg
  obtain ⟨x4, hx⟩ : ∃ x, x = World.setRow (w4.alloc (.cells #[.int .i64 0, .int .i64 0] 26)) w4.heap.size #[.int .i64 s.f0, .int .i64 s.f1] := ⟨_, rfl⟩
  have HX4 := Lib.hid hx
  have OLD4 := Lib.hid (box_new w4 26 #[.int .i64 0, .int .i64 0])
  replace R0 := Lib.hid (show BoxAt x4 w.heap.size 26 #[.int .i64 0, .int .i64 0] by rw [hx]; exact box_far (R0.out.alloc_ _) (by omega))
  have KS := Lib.hid (show BoxAt x4 w4.heap.size 26 #[.int .i64 s.f0, .int .i64 s.f1] by rw [hx]; exact box_row OLD4.out)
  replace HO := Lib.hid (show World.ownsRow x4 w1.heap.size 50 7 v l.length (l.flatMap TGrant.cells) by rw [hx]; exact own_newer HO.out ⟨rfl, rfl, rfl, by simp, fun i hi => (setRow_other _ _ i _ (by omega)).trans (Below.heap_alloc _ _ i hi)⟩)
  replace HC := Lib.hid (show Cur x4 (w.heap.size + 1) A n cap by rw [hx]; exact dr_cur_row (HC.out.new _) (by omega) _)
  replace HB := Lib.hid (show Below w.heap.size w x4 by rw [hx]; exact below_setRow (HB.out.alloc (by have := HB.out.size; omega) _) (by omega) _)
  have m4 : w4.heap.size < x4.heap.size := KS.out.lt
  clear hx
  go_upto_region 5 with (refine wpList_store_row rfl 26 _ _ rfl w4.heap.size #[.int .i64 s.f0, .int .i64 s.f1] rfl rfl 26 _ OLD4.out (by kernel_rfl) (by kernel_rfl) (by kernel_rfl) ?_; rw [← HX4.out]; clear HX4 OLD4)
  refine wp_region_held_drew (S := fun w' => BoxAt w' w4.heap.size 26 #[.int .i64 s.f0, .int .i64 s.f1] ∧ DatO w (w.heap.size + 1) A n cap [(w.heap.size, 26, 2)] w1.heap.size 50 7 v l.length (l.flatMap TGrant.cells) w') (by kernel_rfl) ?_ (fun hHeld => ?_)
  · exact ⟨KS.out.drw, (DatO.mk_ HO.out (by omega) (rs := [(w.heap.size, 26, 2)]) HB.out HC.out (by simp only [List.mem_cons, List.not_mem_nil, or_false, forall_eq_or_imp, forall_eq]; exact ⟨_, rfl, R0.out⟩)).drw⟩
  refine wpAnyH_take (i := 0) (oi := ⟨some 21, _, _, _, _, _⟩) (v := ?_) rfl (by kernel_rfl) (by kernel_rfl) (by kernel_rfl) (fun _ _ _ h => h) (Or.inl ⟨by kernel_rfl, ?_⟩) hHeld ?_
  rotate_left
  focus (intro W hS; skip; clear hS; first | (go_simp; done) | (go_simp; with_reducible rfl))
  try simp only [Act.put, List.setIfInBounds_toArray, List.set_cons_zero, List.set_cons_succ]
  refine wpAnyH_take (i := 1) (oi := ⟨some 22, _, _, _, _, _⟩) (v := ?_) rfl (by kernel_rfl) (by kernel_rfl) (by kernel_rfl) (fun _ _ _ h => h) (Or.inl ⟨by kernel_rfl, ?_⟩) hHeld ?_
  rotate_left
  focus (intro W hS; skip; clear hS; first | (go_simp; done) | (go_simp; with_reducible rfl))
  try simp only [Act.put, List.setIfInBounds_toArray, List.set_cons_zero, List.set_cons_succ]
  refine wpAnyH_take (i := 2) (oi := ⟨some 23, _, _, _, _, _⟩) (v := ?_) rfl (by kernel_rfl) (by kernel_rfl) (by kernel_rfl) (fun _ _ _ h => h) (Or.inl ⟨by kernel_rfl, ?_⟩) hHeld ?_
  rotate_left
  focus (intro W hS; have c0_0 := (hS.1).at_ (j := 0) rfl; have c0_1 := (hS.1).at_ (j := 1) rfl; clear hS; first | (go_simp; done) | (go_simp; with_reducible rfl))
  try simp only [Act.put, List.setIfInBounds_toArray, List.set_cons_zero, List.set_cons_succ]
  refine wpAnyH_take (i := 3) (oi := ⟨some 24, _, _, _, _, _⟩) (v := ?_) rfl (by kernel_rfl) (by kernel_rfl) (by kernel_rfl) (fun _ _ _ h => h) (Or.inl ⟨by kernel_rfl, ?_⟩) hHeld ?_
  rotate_left
  focus (intro W hS; skip; clear hS; first | (go_simp; done) | (go_simp; with_reducible rfl))
  try simp only [Act.put, List.setIfInBounds_toArray, List.set_cons_zero, List.set_cons_succ]
  refine wpAnyH_take (i := 6) (oi := ⟨some 27, _, _, _, _, _⟩) (v := ?_) rfl (by kernel_rfl) (by kernel_rfl) (by kernel_rfl) (fun _ _ _ h => h) (Or.inl ⟨by kernel_rfl, ?_⟩) hHeld ?_
  rotate_left
  focus (intro W hS; skip; clear hS; first | (go_simp; done) | (go_simp; with_reducible rfl))
  try simp only [Act.put, List.setIfInBounds_toArray, List.set_cons_zero, List.set_cons_succ]
  refine wpAnyH_take (i := 8) (oi := ⟨some 29, _, _, _, _, _⟩) (v := ?_) rfl (by kernel_rfl) (by kernel_rfl) (by kernel_rfl) (fun _ _ _ h => h) (Or.inl ⟨by kernel_rfl, ?_⟩) hHeld ?_
  rotate_left
  focus (intro W hS; skip; clear hS; first | (go_simp; done) | (go_simp; with_reducible rfl))
  try simp only [Act.put, List.setIfInBounds_toArray, List.set_cons_zero, List.set_cons_succ]
  refine wpAnyH_ready (rs := [4]) (by kernel_rfl) (by simp) ?_
  refine AllReadyH.cons (o := ⟨some 25, _, _, _, _, _⟩) rfl (fun K hK => ?_) AllReadyH.nil
  go_simp
  refine Calls.mono (below_any (w.heap.size + 1) n cap A 4 _ hn' (hHeld.2.cur HY.out (by omega)) (by omega) (by omega)) ?_
  rintro e v1 ⟨yk, hyka, hykb, rfl, hc, hg⟩
  refine hK.out _ _ ⟨hHeld.1.grown hg (by omega), hHeld.2.call hc hg (by simp <;> omega) (by omega)⟩ (fun hHeld' => ?_)
  clear hK K hHeld hc hg; have hHeld := hHeld'; clear hHeld'
  try simp only [Act.put, List.setIfInBounds_toArray, List.set_cons_zero, List.set_cons_succ]
  refine wpAnyH_take (i := 5) (oi := ⟨some 26, _, _, _, _, _⟩) (v := ?_) rfl (by kernel_rfl) (by kernel_rfl) (by kernel_rfl) (fun _ _ _ h => h) (Or.inl ⟨by kernel_rfl, ?_⟩) hHeld ?_
  rotate_left
  focus (intro W hS; skip; clear hS; first | (go_simp; done) | (go_simp; with_reducible rfl))
  try simp only [Act.put, List.setIfInBounds_toArray, List.set_cons_zero, List.set_cons_succ]
  refine wpAnyH_ready (rs := [7]) (by kernel_rfl) (by simp) ?_
  refine AllReadyH.cons (o := ⟨some 28, _, _, _, _, _⟩) rfl (fun K hK => ?_) AllReadyH.nil
  go_simp
  refine Calls.mono (below_any (w.heap.size + 1) n cap A 18 _ hn' (hHeld.2.cur HY.out (by omega)) (by omega) (by omega)) ?_
  rintro e v2 ⟨yt, hyta, hytb, rfl, hc, hg⟩
  refine hK.out _ _ ⟨hHeld.1.grown hg (by omega), hHeld.2.call hc hg (by simp <;> omega) (by omega)⟩ (fun hHeld' => ?_)
  clear hK K hHeld hc hg; have hHeld := hHeld'; clear hHeld'
  try simp only [Act.put, List.setIfInBounds_toArray, List.set_cons_zero, List.set_cons_succ]
  refine wpAnyH_ready (rs := [9]) (by kernel_rfl) (by simp) ?_
  refine AllReadyH.cons (o := ⟨some 30, _, _, _, _, _⟩) rfl (fun K hK => ?_) AllReadyH.nil
  go_simp
  refine Calls.mono (once_any (w.heap.size + 1) n cap A 2 _ hn' (hHeld.2.cur HY.out (by omega)) (by omega) (by omega)) ?_
  rintro e v3 ⟨b, rfl, hc, hg⟩
  refine hK.out _ _ ⟨hHeld.1.grown hg (by omega), hHeld.2.call hc hg (by simp <;> omega) (by omega)⟩ (fun hHeld' => ?_)
  clear hK K hHeld hc hg; have hHeld := hHeld'; clear hHeld'
  try simp only [Act.put, List.setIfInBounds_toArray, List.set_cons_zero, List.set_cons_succ]
  refine wpAnyH_take (i := 10) (oi := ⟨some 2, _, _, _, _, _⟩) (v := ?_) rfl (by kernel_rfl) (by kernel_rfl) (by kernel_rfl) (fun _ _ _ h => h) (Or.inl ⟨by kernel_rfl, ?_⟩) hHeld ?_
  rotate_left
  focus (intro W hS; skip; clear hS; first | (go_simp; done) | (go_simp; with_reducible rfl))
  try simp only [Act.put, List.setIfInBounds_toArray, List.set_cons_zero, List.set_cons_succ]
  refine wpAnyH_take (i := 11) (oi := ⟨some 3, _, _, _, _, _⟩) (v := ?_) rfl (by kernel_rfl) (by kernel_rfl) (by kernel_rfl) (fun _ _ _ h => h) (Or.inl ⟨by kernel_rfl, ?_⟩) hHeld ?_
  rotate_left
  focus (intro W hS; skip; clear hS; first | (go_simp; done) | (go_simp; with_reducible rfl))
  try simp only [Act.put, List.setIfInBounds_toArray, List.set_cons_zero, List.set_cons_succ]
  refine wpAnyH_ready (rs := [12]) (by kernel_rfl) (by simp) ?_
  refine AllReadyH.cons (o := ⟨none, _, _, _, _, _⟩) rfl (fun K hK => ?_) AllReadyH.nil
  rw [if_pos (by rfl)]
  obtain ⟨cz0, hs0, hz0⟩ := hHeld.2.1.1 (w.heap.size, 26, 2) (by simp)
  refine wp_store_row 26 _ _ rfl w.heap.size #[.int .i64 s.f0, .int .i64 s.f1] rfl rfl 26 _ hz0 (by kernel_rfl) hs0 (by kernel_rfl) ?_
  have G_R0 := box_row (cs := #[.int .i64 s.f0, .int .i64 s.f1]) hz0
  have hHeld2 := hHeld.2.row w.heap.size (by omega) (by omega) #[.int .i64 s.f0, .int .i64 s.f1] (by simp)
  have hb0 := box_far (cs := #[.int .i64 s.f0, .int .i64 s.f1]) (g := w.heap.size) hHeld.1 (by omega)
  clear hz0
  generalize World.setRow _ w.heap.size #[.int .i64 s.f0, .int .i64 s.f1] = v4 at G_R0 hHeld2 hb0 ⊢
  refine hK.out _ _ ⟨hb0, hHeld2⟩ (fun hHeld' => ?_)
  clear hK K hHeld hHeld2 hb0; have hHeld := hHeld'; clear hHeld'
  try simp only [Act.put, List.setIfInBounds_toArray, List.set_cons_zero, List.set_cons_succ]
  refine wpAnyH_take (i := 13) (oi := ⟨some 5, _, _, _, _, _⟩) (v := ?_) rfl (by kernel_rfl) (by kernel_rfl) (by kernel_rfl) (fun _ _ _ h => h) (Or.inl ⟨by kernel_rfl, ?_⟩) hHeld ?_
  rotate_left
  focus (intro W hS; skip; clear hS; first | (go_simp; done) | (go_simp; with_reducible rfl))
  try simp only [Act.put, List.setIfInBounds_toArray, List.set_cons_zero, List.set_cons_succ]
  refine wpAnyH_take (i := 14) (oi := ⟨some 6, _, _, _, _, _⟩) (v := ?_) rfl (by kernel_rfl) (by kernel_rfl) (by kernel_rfl) (fun _ _ _ h => h) (Or.inl ⟨by kernel_rfl, ?_⟩) hHeld ?_
  rotate_left
  focus (intro W hS; skip; clear hS; first | (go_simp; done) | (go_simp; with_reducible rfl))
  try simp only [Act.put, List.setIfInBounds_toArray, List.set_cons_zero, List.set_cons_succ]
  refine wpAnyH_take (i := 15) (oi := ⟨some 7, _, _, _, _, _⟩) (v := ?_) rfl (by kernel_rfl) (by kernel_rfl) (by kernel_rfl) (fun _ _ _ h => h) (Or.inl ⟨by kernel_rfl, ?_⟩) hHeld ?_
  rotate_left
  focus (intro W hS; skip; clear hS; first | (go_simp; done) | (go_simp; with_reducible rfl))
  try simp only [Act.put, List.setIfInBounds_toArray, List.set_cons_zero, List.set_cons_succ]
  refine wpAnyH_done (by kernel_rfl) ?_ _
  have p0 := G_R0.at_ (j := 0) rfl
  have p1 := G_R0.at_ (j := 1) rfl
  have ek := IntWalk.i64_in (1 + yk) (by omega)
  have HBE := hHeld.2.1.2.2
  obtain ⟨A', c', rfl, hF⟩ := fr_of_own hHeld.2.2.1
  have HR := hF.rd.mono (lo' := w.heap.size) (hi' := v4.heap.size) (by omega) (Nat.le_refl _)
  clear hHeld hF
  go_wp2_with fail
  exact bodyPost_ret (v := .tuple #[.slice A' l.length c', .int .i64 (1 + ye), .agg #[.int .i64 s.f0, .int .i64 s.f1], .int .i64 (1 + yk), .int .i64 yt, .bool b]) (by simp [results, Try.results23, go_sem, p0, p1, ek]) rfl ⟨A', c', l, _, s, _, _, b, rfl, hl, HU.out, by omega, by omega, hs, by omega, by omega, by omega, by omega, HR, HBE⟩
/-- A list of grants and a time are drawn. -/
def DrawnEG (w : World) (e : Ending) (w' : World) : Prop :=
  ∃ (A : Option Addr) (c : Nat) (l : List TGrant) (t : Int), e = .returned (.tuple #[.slice A l.length c, .int .i64 t]) ∧ l.length ≤ 6 ∧ (∀ y ∈ l, y.fit) ∧ 0 ≤ t ∧ t ≤ 19 ∧ Rd w' w.heap.size w'.heap.size 7 A l.length (cGrant l) ∧ Below w.heap.size w w'
set_option maxHeartbeats 16000000 in
theorem drawEG_any (n cap : Nat) (A : Option Addr) (w : World) (hn : n ≤ 140737488355328) (hb : BytesAt w w.heap.size A n) :
    Calls Try.prog 27 #[.slice A n cap] w (DrawnEG w) := by
  have hn' : n ≤ maxLen := by unfold maxLen; omega
  have HY := Lib.hid hb
  have HB := Lib.hid (Below.refl w.heap.size w)
  clear hb
  go_enter Try.func27, Try.ntmps27
  go_wp2_with fail
  refine Calls.mono (dr_new n cap A w _ w.heap.size (by simp) hn HY.out HB.out) ?_
  rintro e w1 ⟨rfl, hc, hb1⟩
  have HC := Lib.hid hc
  replace HB := Lib.hid (HB.out.trans (hb1.mono (by omega)))
  have l1 : w.heap.size < w1.heap.size := HC.out.lt
  clear hc hb1
  go_wp2_with fail
  refine Calls.mono (grants_any w.heap.size n cap A _ hn' HC.out) ?_
  rintro e w2 ⟨v, l, rfl, hl, hu, ho, hc, hg⟩
  replace HB := Lib.hid (dr_below HB.out (by omega) hg)
  replace HC := Lib.hid hc
  have l2 : w.heap.size < w2.heap.size := HC.out.lt
  clear hc hg
  have HO := Lib.hid ho
  have HU := Lib.hid hu
  clear ho hu
  obtain ⟨A', c', rfl, hF⟩ := fr_of_own HO.out
  have HF := Lib.hid hF
  clear hF
  by_cases h0 : 0 < l.length
  · skip
    have g0 : decide ((0 : Int) < (l.length : Int)) = true := by first | exact decide_eq_true (by omega) | exact decide_eq_false (by omega)
    have g1 : decide ((l.length : Int) > 0) = true := by first | exact decide_eq_true (by omega) | exact decide_eq_false (by omega)
    go_wp2_with fail
    refine Calls.mono (once_any w.heap.size n cap A 4 _ hn' HC.out (by omega) (by omega)) ?_
    rintro e w3 ⟨b, rfl, hc, hg⟩
    replace HO := Lib.hid (dr_own HO.out (by omega) hg)
    replace HB := Lib.hid (dr_below HB.out (by omega) hg)
    replace HC := Lib.hid hc
    have l3 : w.heap.size < w3.heap.size := HC.out.lt
    clear hc hg
    cases b
    · skip
      go_wp2_with fail
      refine Calls.mono (below_any w.heap.size n cap A 20 _ hn' HC.out (by omega) (by omega)) ?_
      rintro e w4 ⟨yt, hya, hyb, rfl, hc, hg⟩
      replace HO := Lib.hid (dr_own HO.out (by omega) hg)
      replace HB := Lib.hid (dr_below HB.out (by omega) hg)
      replace HC := Lib.hid hc
      have l4 : w.heap.size < w4.heap.size := HC.out.lt
      clear hc hg
      obtain ⟨A2, c2, hv2, hF⟩ := fr_of_own HO.out
      injection hv2 with q1 q2 q3
      subst q1 q3
      have HR := Lib.hid (show Rd w4 w.heap.size w4.heap.size 7 A' l.length (cGrant l) from hF.rd.mono (by omega) (Nat.le_refl _))
      clear hF q2
      go_wp2_with fail
      go_ret2
      exact ⟨A', c', l, yt, rfl, hl, HU.out, hya, by omega, HR.out, HB.out⟩
    · skip
      go_wp2_with fail
      refine Calls.mono (granta_any w.heap.size n cap A _ hn' HC.out) ?_
      rintro e w4 ⟨x, hx, rfl, hc, hg⟩
      replace HO := Lib.hid (dr_own HO.out (by omega) hg)
      replace HB := Lib.hid (dr_below HB.out (by omega) hg)
      replace HC := Lib.hid hc
      have l4 : w.heap.size < w4.heap.size := HC.out.lt
      clear hc hg
      obtain ⟨A2, c2, hv2, hF⟩ := fr_of_own HO.out
      injection hv2 with q1 q2 q3
      subst q1 q3
      obtain ⟨gb, cc, rfl, h1, h2, h3, rfl, h5, f, hrow, hf⟩ := hF.row h0
      obtain ⟨y, r, rfl⟩ : ∃ y r, l = y :: r := by
        cases l with
        | nil => exact absurd h0 (by simp)
        | cons y r => exact ⟨y, r, rfl⟩
      have hl3 : r.length + 1 ≤ c' := h3
      have HTh := Lib.hid (there_row (o := 0) (k := 7) hrow (by omega))
      have HRow := Lib.hid (rowIs_setCells [.int .i64 x.f0, .int .i64 x.f1, .int .i64 x.f2, .int .i64 x.f3, .int .i64 x.f4, .int .i64 x.f5, .bool x.f6] 0 w4 f hrow)
      have hgb : w.heap.size < gb := by omega
      have HFN := Lib.hid (fr_of_rowcap (lo := w1.heap.size) (hi := w4.heap.size) (n := (x :: r).length) (xs := cGrant (x :: r)) HRow.out h1 h2 h3 h5 (flat_len TGrant.len _) (fun t u hu => by
        by_cases ht : t < 7
        · rw [if_pos (by constructor <;> simp <;> omega)]
          have : (cGrant (x :: r))[t]? = (TGrant.cells x)[t]? := by
            simp only [cGrant, List.flatMap_cons]
            exact List.getElem?_append_left (by rw [TGrant.len]; exact ht)
          rw [this] at hu
          have e0 : t - 0 = t := rfl
          rw [e0]
          change ((TGrant.cells x)[t]?).getD default = u
          rw [hu]; rfl
        · rw [if_neg (by simp; omega)]
          refine hf t u ?_
          rw [← hu]
          simp only [cGrant, List.flatMap_cons]
          rw [List.getElem?_append_right (by rw [TGrant.len]; omega), List.getElem?_append_right (by rw [TGrant.len]; omega), TGrant.len, TGrant.len]))
      have HBN := Lib.hid (below_setCells (B := w.heap.size) (b := gb) (by omega) [.int .i64 x.f0, .int .i64 x.f1, .int .i64 x.f2, .int .i64 x.f3, .int .i64 x.f4, .int .i64 x.f5, .bool x.f6] 0 w4 HB.out)
      have HCN := Lib.hid (dr_cur_low (B := w.heap.size + 1) HC.out (by omega) (below_setCells (b := gb) (by omega) [.int .i64 x.f0, .int .i64 x.f1, .int .i64 x.f2, .int .i64 x.f3, .int .i64 x.f4, .int .i64 x.f5, .bool x.f6] 0 w4 (Below.refl _ _)))
      have hzs : (World.setCells w4 gb 0 [.int .i64 x.f0, .int .i64 x.f1, .int .i64 x.f2, .int .i64 x.f3, .int .i64 x.f4, .int .i64 x.f5, .bool x.f6]).heap.size = w4.heap.size := by simp [World.setCells, World.setCell]
      obtain ⟨x5, hx5⟩ : ∃ X, X = World.setCells w4 gb 0 [.int .i64 x.f0, .int .i64 x.f1, .int .i64 x.f2, .int .i64 x.f3, .int .i64 x.f4, .int .i64 x.f5, .bool x.f6] := ⟨_, rfl⟩
      have HX5 := Lib.hid hx5
      rw [← hx5] at HFN HBN HCN hzs
      have HUN := Lib.hid (show ∀ z ∈ x :: r, TGrant.fit z from fun z hz => by
        rcases List.mem_cons.1 hz with rfl | hz
        · exact hx
        · exact HU.out z (List.mem_cons_of_mem _ hz))
      clear hF hrow hf HRow HO HU HC HB hx5
      go_wp2_with (refine wpList_store_mid rfl _ (.tmp 20) (.tmp 19) rfl gb 0 #[.int .i64 x.f0, .int .i64 x.f1, .int .i64 x.f2, .int .i64 x.f3, .int .i64 x.f4, .int .i64 x.f5, .bool x.f6] rfl rfl HTh.out (by kernel_rfl) (by simp [Value.oneCell']) ?_; change wpList _ _ _ _ _ (World.setCells w4 gb 0 [.int .i64 x.f0, .int .i64 x.f1, .int .i64 x.f2, .int .i64 x.f3, .int .i64 x.f4, .int .i64 x.f5, .bool x.f6]); rw [← HX5.out]; clear HX5)
      refine Calls.mono (below_any w.heap.size n cap A 20 _ hn' HCN.out (by omega) (by omega)) ?_
      rintro e w6 ⟨yt, hya, hyb, rfl, hc, hg⟩
      have HR := Lib.hid (show Rd w6 w.heap.size w6.heap.size 7 (some ⟨gb, 0, none⟩) (x :: r).length (cGrant (x :: r)) from (fr_grown HFN.out hg (by omega)).rd.mono (by omega) (by have := hg.size; omega))
      have HBE := Lib.hid (dr_below HBN.out (by omega) hg)
      clear hc hg HFN
      go_wp2_with fail
      go_ret2
      exact ⟨_, c', x :: r, yt, rfl, hl, HUN.out, hya, by omega, HR.out, HBE.out⟩
  · skip
    have g0 : decide ((0 : Int) < (l.length : Int)) = false := by first | exact decide_eq_true (by omega) | exact decide_eq_false (by omega)
    have g1 : decide ((l.length : Int) > 0) = false := by first | exact decide_eq_true (by omega) | exact decide_eq_false (by omega)
    go_wp2_with fail
    refine Calls.mono (below_any w.heap.size n cap A 20 _ hn' HC.out (by omega) (by omega)) ?_
    rintro e w3 ⟨yt, hya, hyb, rfl, hc, hg⟩
    replace HO := Lib.hid (dr_own HO.out (by omega) hg)
    replace HB := Lib.hid (dr_below HB.out (by omega) hg)
    replace HC := Lib.hid hc
    have l3 : w.heap.size < w3.heap.size := HC.out.lt
    clear hc hg
    obtain ⟨A2, c2, hv2, hF⟩ := fr_of_own HO.out
    injection hv2 with q1 q2 q3
    subst q1 q3
    have HR := Lib.hid (show Rd w3 w.heap.size w3.heap.size 7 A' l.length (cGrant l) from hF.rd.mono (by omega) (Nat.le_refl _))
    clear hF q2
    go_wp2_with fail
    go_ret2
    exact ⟨A', c', l, yt, rfl, hl, HU.out, hya, by omega, HR.out, HB.out⟩
end Go.Proofs.Ytlnmgfbfpjfddaa
