/- A number put into an ascending list: the model's l6Put, at every list. No condition but its length. -/
import Derived.Test.YtejcioenoofjlaaGreatAscM
import Derived.Test.YtejcioenoofjlaaGreatAppO
import Derived.Test.YtejcioenoofjlaaGreatSlI
import Derived.Test.YtejcioenoofjlaaGreatFun
import Derived.Test.YtejcioenoofjlaaGreatB2I
import Derived.Deep.LoopGhost
namespace Go.Proofs.YtejcioenoofjlaaGreat
open Go Go.ChangeShapes Go.WideShapes Go.ChangeAt Go.RowKit Go.Lib
set_option linter.unusedVariables false
set_option linter.unusedSimpArgs false
set_option maxRecDepth 100000
theorem rd_boxp {w : World} {g : Nat} {t : TypeId} {cs : Array Value} (h : BoxAt w g t cs) (n : Nat) (hn : cs.size = n) : Rd w g (g + 1) 1 (some ⟨g, 0, none⟩) n cs.toList :=
  ⟨by simpa using hn, fun _ => ⟨g, 0, rfl, Nat.le_refl _, by omega, fun j u hu => by rw [Nat.zero_add]; exact h.at_ (by simpa using hu)⟩⟩
theorem mPut_low {n : Int} : ∀ {l : List Int} {k : Nat}, (∀ x ∈ l.take k, x < n) → k ≤ l.length → mPut n l = l.take k ++ mPut n (l.drop k)
  | l, 0, _, _ => by simp
  | [], k + 1, _, h => by simp at h
  | x :: l, k + 1, h, hk => by
    have hx : x < n := h x (by simp)
    rw [List.take_succ_cons, List.drop_succ_cons, mPut, if_pos hx, mPut_low (l := l) (k := k) (fun y hy => h y (by simp [hy])) (by simpa using hk)]
    simp
theorem mPut_in {n : Int} {l : List Int} {k : Nat} (h : ∀ x ∈ l.take k, x < n) (hk : l[k]? = some n) : mPut n l = l := by
  have hlt := (List.getElem?_eq_some_iff.1 hk).1
  rw [mPut_low h (by omega), List.drop_eq_getElem_cons hlt]
  have e : l[k] = n := (List.getElem?_eq_some_iff.1 hk).2
  rw [e, mPut, if_neg (by omega), if_pos rfl, ← e, ← List.drop_eq_getElem_cons hlt, List.take_append_drop]
theorem mPut_new {n : Int} {l : List Int} {k : Nat} (h : ∀ x ∈ l.take k, x < n) (hk : k ≤ l.length) (hx : ∀ y, l[k]? = some y → n < y) : mPut n l = l.take k ++ [n] ++ l.drop k := by
  rw [mPut_low h hk]
  by_cases e : k < l.length
  · have := hx _ (List.getElem?_eq_getElem e)
    rw [List.drop_eq_getElem_cons e, mPut, if_neg (by omega), if_neg (by omega)]
    simp
  · rw [List.drop_eq_nil_of_le (by omega)]; simp [mPut]
theorem low_step {n z : Int} {l : List Int} {k : Nat} (h : ∀ x ∈ l.take k, x < n) (hz : l[k]? = some z) (hlt : z < n) : ∀ x ∈ l.take (k + 1), x < n := by
  intro x hx
  rw [List.take_add_one, hz] at hx
  rcases List.mem_append.1 hx with hx | hx
  · exact h x hx
  · simp at hx; omega
theorem rd_take {w : World} {lo hi n k : Nat} {A : Option Addr} {l : List Int} (h : Rd w lo hi 1 A n (i64s l)) (hk : k ≤ n) : Rd w lo hi 1 A k (i64s (l.take k)) := by
  have hl : l.length = n := by have := h.1; simpa [i64s] using this
  refine ⟨by simp [i64s]; omega, fun h0 => ?_⟩
  obtain ⟨b, off, e, h1, h2, hc⟩ := h.2 (by omega)
  refine ⟨b, off, e, h1, h2, fun j u hu => hc j u ?_⟩
  unfold i64s at hu ⊢
  rw [List.map_take, List.getElem?_take] at hu
  split at hu
  · exact hu
  · cases hu
theorem rd_drop {w : World} {lo hi n k : Nat} {b off : Nat} {l : List Int} (h : Rd w lo hi 1 (some ⟨b, off, none⟩) n (i64s l)) (hk : k ≤ n) : Rd w lo hi 1 (some ⟨b, off + k, none⟩) (n - k) (i64s (l.drop k)) := by
  have hl : l.length = n := by have := h.1; simpa [i64s] using this
  refine ⟨by simp [i64s]; omega, fun h0 => ?_⟩
  obtain ⟨b', off', e, h1, h2, hc⟩ := h.2 (by omega)
  injection e with e; injection e with e1 e2; subst e1; subst e2
  refine ⟨_, _, rfl, h1, h2, fun j u hu => ?_⟩
  rw [Nat.add_assoc]
  refine hc (k + j) u ?_
  unfold i64s at hu ⊢
  rw [List.map_drop, List.getElem?_drop] at hu
  exact hu
set_option maxHeartbeats 8000000 in
theorem spec_l6Put (l : List Int) (A : Option Addr) (n c lo hi : Nat) (a : Int) (w : World) (hn : n ≤ 1099511627000) (hr : Rd w lo hi 1 A n (i64s l)) (hcap : n ≤ c) :
    Calls Tryz.prog 20 #[.slice A n c, .int .i64 a] w (Makes 3 1 (mPut a l).length (i64s (mPut a l)) w) := by
  have HL := Lib.hid (show l.length = n by have := hr.1; simpa [i64s] using this)
  have HR := Lib.hid hr
  have HC := Lib.hid hcap
  have fin : ∀ k, k ≤ n → (∀ x ∈ l.take k, x < a) → (∀ y, l[k]? = some y → a < y) → True := fun _ _ _ _ => trivial
  clear hr hcap fin
  go_enter Tryz.func20, Tryz.ntmps20
  go_wp2_with fail
  go_loopg [5] n (fun gg i wr => ∃ k : Nat, k ≤ n ∧ n - k ≤ gg ∧ i = .int .i64 k ∧ w = wr ∧ Hid (∀ x ∈ l.take k, x < a))
  case atStart => exact ⟨0, Nat.zero_le _, by omega, rfl, rfl, Lib.hid (fun x hx => by simp at hx)⟩
  case round =>
    obtain ⟨k, hk, hg, rfl, rfl, HM⟩ := hrel
    by_cases hlt : k < n
    · obtain ⟨b, off, z, rfl, _, _, hz, hc⟩ := rd_int HR.out hlt
      by_cases hza : z < a
      · have HM1 := Lib.hid (low_step HM.out hz hza)
        clear hz
        go_wp2_with fail
        go_roundg (n - (k + 1))
        case rel => exact ⟨k + 1, by omega, by omega, by go_num, rfl, HM1⟩
        case measure => omega
      · by_cases hzb : z = a
        · subst hzb
          have HE := Lib.hid (mPut_in HM.out hz)
          clear hza
          go_wp2_with (at_builtin; refine wp_app rfl _ _ _ rfl w.heap.size 3 (.int .i64 0) 1 8 Tryz.underlying26 info_int rfl (by decide) _ _ _ rfl (World.ownsRow_lit w #[] 0 (Nat.le_refl _) (by unfold maxLen; omega) rfl) lo hi _ n c (i64s l) rfl (HR.out.alloc _) (ints_oneCell _ _) (by unfold maxLen; omega) (by omega) (by simp) ?_; intro v1 w1 ho1 hb1 _ _)
          go_ret
          have HB := Lib.hid (((Below.refl w.heap.size w).alloc (Nat.le_refl _) _).trans hb1)
          exact makes_of_own (by rw [HE.out, HL.out]; simpa using ho1) HB.out
        · have HE := Lib.hid (mPut_new HM.out (by have := HL.out; omega) (fun y hy => by rw [hz] at hy; injection hy with hy; omega))
          have HT := Lib.hid (rd_take HR.out (show k ≤ n by omega))
          have HD := Lib.hid (rd_drop HR.out (show k ≤ n by omega))
          have hkc : k ≤ c := by have := HC.out; omega
          have hck : ¬ c = k := by have := HC.out; omega
          clear hz
          go_wp2_with fail
          refine wp_region_held_drew (S := fun w' => Below w.heap.size w w') (by kernel_rfl) ?_ (fun hHeld => ?_)
          · exact (Below.refl w.heap.size w).drew
          generalize (World.drew _) = x0 at hHeld ⊢
          refine wpAnyH_take (i := 1) (oi := ⟨some 36, _, _, _, _, _⟩) (v := ?_) rfl (by kernel_rfl) (by kernel_rfl) (by kernel_rfl) (fun _ _ _ h => h) (Or.inl ⟨by kernel_rfl, ?_⟩) hHeld ?_
          rotate_left
          focus (intro W hS; skip; clear hS; first | (go_simp; done) | (go_simp; with_reducible rfl))
          try simp only [Act.put, List.setIfInBounds_toArray, List.set_cons_zero, List.set_cons_succ]
          refine wpAnyH_take (i := 2) (oi := ⟨some 37, _, _, _, _, _⟩) (v := ?_) rfl (by kernel_rfl) (by kernel_rfl) (by kernel_rfl) (fun _ _ _ h => h) (Or.inl ⟨by kernel_rfl, ?_⟩) hHeld ?_
          rotate_left
          focus (intro W hS; skip; clear hS; first | (go_simp; done) | (go_simp; with_reducible rfl))
          try simp only [Act.put, List.setIfInBounds_toArray, List.set_cons_zero, List.set_cons_succ]
          refine wpAnyH_take (i := 3) (oi := ⟨some 38, _, _, _, _, _⟩) (v := ?_) rfl (by kernel_rfl) (by kernel_rfl) (by kernel_rfl) (fun _ _ _ h => h) (Or.inl ⟨by kernel_rfl, ?_⟩) hHeld ?_
          rotate_left
          focus (intro W hS; skip; clear hS; first | (go_simp; done) | (go_simp; with_reducible rfl))
          try simp only [Act.put, List.setIfInBounds_toArray, List.set_cons_zero, List.set_cons_succ]
          refine wpAnyH_take (i := 5) (oi := ⟨some 40, _, _, _, _, _⟩) (v := ?_) rfl (by kernel_rfl) (by kernel_rfl) (by kernel_rfl) (fun _ _ _ h => h) (Or.inl ⟨by kernel_rfl, ?_⟩) hHeld ?_
          rotate_left
          focus (intro W hS; skip; clear hS; first | (go_simp; done) | (go_simp; with_reducible rfl))
          try simp only [Act.put, List.setIfInBounds_toArray, List.set_cons_zero, List.set_cons_succ]
          refine wpAnyH_take (i := 8) (oi := ⟨some 43, _, _, _, _, _⟩) (v := ?_) rfl (by kernel_rfl) (by kernel_rfl) (by kernel_rfl) (fun _ _ _ h => h) (Or.inl ⟨by kernel_rfl, ?_⟩) hHeld ?_
          rotate_left
          focus (intro W hS; skip; clear hS; first | (go_simp; done) | (go_simp; with_reducible rfl))
          try simp only [Act.put, List.setIfInBounds_toArray, List.set_cons_zero, List.set_cons_succ]
          refine wpAnyH_take (i := 9) (oi := ⟨some 44, _, _, _, _, _⟩) (v := ?_) rfl (by kernel_rfl) (by kernel_rfl) (by kernel_rfl) (fun _ _ _ h => h) (Or.inl ⟨by kernel_rfl, ?_⟩) hHeld ?_
          rotate_left
          focus (intro W hS; skip; clear hS; first | (go_simp; done) | (go_simp; with_reducible rfl))
          try simp only [Act.put, List.setIfInBounds_toArray, List.set_cons_zero, List.set_cons_succ]
          refine wpAnyH_take (i := 10) (oi := ⟨some 45, _, _, _, _, _⟩) (v := ?_) rfl (by kernel_rfl) (by kernel_rfl) (by kernel_rfl) (fun _ _ _ h => h) (Or.inl ⟨by kernel_rfl, ?_⟩) hHeld ?_
          rotate_left
          focus (intro W hS; skip; clear hS; first | (go_simp; done) | (go_simp; with_reducible rfl))
          try simp only [Act.put, List.setIfInBounds_toArray, List.set_cons_zero, List.set_cons_succ]
          refine wpAnyH_ready (rs := [0, 6]) (by kernel_rfl) (by simp) ?_
          refine AllReadyH.cons (o := ⟨some 35, _, _, _, _, _⟩) rfl (fun K hK => ?_) ?_
          · skip
            go_simp
            have Gb0 := box_new (x0) 3 #[]
            have hb1 := (Below.refl (x0).heap.size (x0)).alloc (Nat.le_refl _) (.cells #[] 3)
            have Lb0 : w.heap.size ≤ (x0).heap.size := by have := (hHeld).size; omega
            generalize (x0).alloc (.cells #[] 3) = x1 at hb1 Gb0  ⊢
            generalize hg : (x0).heap.size = gb0 at Gb0 Lb0  ⊢
            clear hg
            refine hK.out _ _ (below_trans hHeld hb1 (Nat.le_refl _)) (fun hHeld' => ?_)
            clear hK K hHeld hb1
            have hHeld := hHeld'
            clear hHeld'
            try simp only [Act.put, List.setIfInBounds_toArray, List.set_cons_zero, List.set_cons_succ]
            refine wpAnyH_ready (rs := [4, 6]) (by kernel_rfl) (by simp) ?_
            refine AllReadyH.cons (o := ⟨some 39, _, _, _, _, _⟩) rfl (fun K hK => ?_) ?_
            · skip
              refine step_appo rfl _ _ _ (by rfl) w.heap.size 3 (.int .i64 0) 1 8 Tryz.underlying26 info_int rfl (by decide) (.slice (some ⟨gb0, 0, none⟩) 0 0) (by rfl) (0) ([]) (own_of_box Gb0 (by have := Lb0; omega)) lo hi (some ⟨b, off, none⟩) k c (i64s (l.take k)) (by rfl) (HT.out.new hHeld) (ints_oneCell _ _) (by unfold maxLen; omega) (by omega) (by have := (hHeld).size; omega) ?_
              intro Vp1 x2 hO hb0 hgr
              have hsz0 := hb0.size
              clear Gb0
              have OWp1 := hO
              have hb1 := hb0.mono (show w.heap.size ≤ w.heap.size by omega)
              refine hK.out _ _ ((hHeld).trans hb1) (fun hHeld' => ?_)
              clear hK K hHeld hb1 hb0 hgr hO
              have hHeld := hHeld'
              clear hHeld'
              try simp only [Act.put, List.setIfInBounds_toArray, List.set_cons_zero, List.set_cons_succ]
              refine wpAnyH_ready (rs := [6]) (by kernel_rfl) (by simp) ?_
              refine AllReadyH.cons (o := ⟨some 41, _, _, _, _, _⟩) rfl (fun K hK => ?_) AllReadyH.nil
              go_simp
              have Gb6 := box_new (x2) 3 #[.int .i64 a]
              have hb1 := (Below.refl (x2).heap.size (x2)).alloc (Nat.le_refl _) (.cells #[.int .i64 a] 3)
              have Lb6 : w.heap.size ≤ (x2).heap.size := by have := (hHeld).size; omega
              replace OWp1 := own_newer OWp1 hb1
              generalize (x2).alloc (.cells #[.int .i64 a] 3) = x3 at hb1 Gb6 OWp1 ⊢
              generalize hg : (x2).heap.size = gb6 at Gb6 Lb6  ⊢
              clear hg
              refine hK.out _ _ (below_trans hHeld hb1 (Nat.le_refl _)) (fun hHeld' => ?_)
              clear hK K hHeld hb1
              have hHeld := hHeld'
              clear hHeld'
              try simp only [Act.put, List.setIfInBounds_toArray, List.set_cons_zero, List.set_cons_succ]
              refine wpAnyH_ready (rs := [7]) (by kernel_rfl) (by simp) ?_
              refine AllReadyH.cons (o := ⟨some 42, _, _, _, _, _⟩) rfl (fun K hK => ?_) AllReadyH.nil
              refine step_appo rfl _ _ _ (by rfl) w.heap.size 3 (.int .i64 0) 1 8 Tryz.underlying26 info_int rfl (by decide) Vp1 (by rfl) ((0 + k)) (([] ++ i64s (l.take k))) OWp1 gb6 (gb6 + 1) (some ⟨gb6, 0, none⟩) 1 1 (#[Value.int .i64 a]).toList (by rfl) (rd_boxp Gb6 1 rfl) (one_int a) (by unfold maxLen; omega) (by omega) (by have := (hHeld).size; omega) ?_
              intro Vp2 x4 hO hb0 hgr
              have hsz0 := hb0.size
              clear Gb6
              have OWp2 := hO
              have hb1 := hb0.mono (show w.heap.size ≤ w.heap.size by omega)
              refine hK.out _ _ ((hHeld).trans hb1) (fun hHeld' => ?_)
              clear hK K hHeld hb1 hb0 hgr hO
              have hHeld := hHeld'
              clear hHeld'
              try simp only [Act.put, List.setIfInBounds_toArray, List.set_cons_zero, List.set_cons_succ]
              refine wpAnyH_ready (rs := [11]) (by kernel_rfl) (by simp) ?_
              refine AllReadyH.cons (o := ⟨some 46, _, _, _, _, _⟩) rfl (fun K hK => ?_) AllReadyH.nil
              refine step_appo rfl _ _ _ (by rfl) w.heap.size 3 (.int .i64 0) 1 8 Tryz.underlying26 info_int rfl (by decide) Vp2 (by rfl) ((0 + k + 1)) (([] ++ i64s (l.take k) ++ (#[Value.int .i64 a]).toList)) OWp2 lo hi _ (n - k) _ (i64s (l.drop k)) (by rfl) (HD.out.new hHeld) (ints_oneCell _ _) (by unfold maxLen; omega) (by omega) (by have := (hHeld).size; omega) ?_
              intro Vp3 x5 hO hb0 hgr
              have hsz0 := hb0.size
              have OWp3 := hO
              have hb1 := hb0.mono (show w.heap.size ≤ w.heap.size by omega)
              refine hK.out _ _ ((hHeld).trans hb1) (fun hHeld' => ?_)
              clear hK K hHeld hb1 hb0 hgr hO
              have hHeld := hHeld'
              clear hHeld'
              try simp only [Act.put, List.setIfInBounds_toArray, List.set_cons_zero, List.set_cons_succ]
              refine wpAnyH_take (i := 12) (oi := ⟨some 4, _, _, _, _, _⟩) (v := ?_) rfl (by kernel_rfl) (by kernel_rfl) (by kernel_rfl) (fun _ _ _ h => h) (Or.inl ⟨by kernel_rfl, ?_⟩) hHeld ?_
              rotate_left
              focus (intro W hS; skip; clear hS; first | (go_simp; done) | (go_simp; with_reducible rfl))
              try simp only [Act.put, List.setIfInBounds_toArray, List.set_cons_zero, List.set_cons_succ]
              refine wpAnyH_done (by kernel_rfl) ?_ _
              go_wp2_with fail
              go_ret
              have hO := OWp3
              have e1 : 0 + k + 1 + (n - k) = (l.take k ++ [a] ++ l.drop k).length := by have := HL.out; simp; omega
              have hdn : l.drop n = [] := List.drop_eq_nil_of_le (by have := HL.out; omega)
              have e2 : ([] ++ i64s (l.take k) ++ (#[Value.int .i64 a]).toList ++ i64s (l.drop k)) = i64s (l.take k ++ [a] ++ l.drop k) := by simp [i64s, hdn]
              rw [e1, e2, ← HE.out] at hO
              exact makes_of_own hO hHeld
            refine AllReadyH.cons (o := ⟨some 41, _, _, _, _, _⟩) rfl (fun K hK => ?_) ?_
            · skip
              go_simp
              have Gb6 := box_new (x1) 3 #[.int .i64 a]
              have hb1 := (Below.refl (x1).heap.size (x1)).alloc (Nat.le_refl _) (.cells #[.int .i64 a] 3)
              have Lb6 : w.heap.size ≤ (x1).heap.size := by have := (hHeld).size; omega
              have Nb0b6 : gb0 < (x1).heap.size := Gb0.lt
              replace Gb0 := Gb0.new hb1
              generalize (x1).alloc (.cells #[.int .i64 a] 3) = x2 at hb1 Gb6 Gb0 ⊢
              generalize hg : (x1).heap.size = gb6 at Gb6 Lb6 Nb0b6 ⊢
              clear hg
              refine hK.out _ _ (below_trans hHeld hb1 (Nat.le_refl _)) (fun hHeld' => ?_)
              clear hK K hHeld hb1
              have hHeld := hHeld'
              clear hHeld'
              try simp only [Act.put, List.setIfInBounds_toArray, List.set_cons_zero, List.set_cons_succ]
              refine wpAnyH_ready (rs := [4]) (by kernel_rfl) (by simp) ?_
              refine AllReadyH.cons (o := ⟨some 39, _, _, _, _, _⟩) rfl (fun K hK => ?_) AllReadyH.nil
              refine step_appo rfl _ _ _ (by rfl) w.heap.size 3 (.int .i64 0) 1 8 Tryz.underlying26 info_int rfl (by decide) (.slice (some ⟨gb0, 0, none⟩) 0 0) (by rfl) (0) ([]) (own_of_box Gb0 (by have := Lb0; omega)) lo hi (some ⟨b, off, none⟩) k c (i64s (l.take k)) (by rfl) (HT.out.new hHeld) (ints_oneCell _ _) (by unfold maxLen; omega) (by omega) (by have := (hHeld).size; omega) ?_
              intro Vp1 x3 hO hb0 hgr
              have hsz0 := hb0.size
              clear Gb0
              replace Gb6 := Gb6.grown (r := gb0) hgr (by omega)
              have OWp1 := hO
              have hb1 := hb0.mono (show w.heap.size ≤ w.heap.size by omega)
              refine hK.out _ _ ((hHeld).trans hb1) (fun hHeld' => ?_)
              clear hK K hHeld hb1 hb0 hgr hO
              have hHeld := hHeld'
              clear hHeld'
              try simp only [Act.put, List.setIfInBounds_toArray, List.set_cons_zero, List.set_cons_succ]
              refine wpAnyH_ready (rs := [7]) (by kernel_rfl) (by simp) ?_
              refine AllReadyH.cons (o := ⟨some 42, _, _, _, _, _⟩) rfl (fun K hK => ?_) AllReadyH.nil
              refine step_appo rfl _ _ _ (by rfl) w.heap.size 3 (.int .i64 0) 1 8 Tryz.underlying26 info_int rfl (by decide) Vp1 (by rfl) ((0 + k)) (([] ++ i64s (l.take k))) OWp1 gb6 (gb6 + 1) (some ⟨gb6, 0, none⟩) 1 1 (#[Value.int .i64 a]).toList (by rfl) (rd_boxp Gb6 1 rfl) (one_int a) (by unfold maxLen; omega) (by omega) (by have := (hHeld).size; omega) ?_
              intro Vp2 x4 hO hb0 hgr
              have hsz0 := hb0.size
              clear Gb6
              have OWp2 := hO
              have hb1 := hb0.mono (show w.heap.size ≤ w.heap.size by omega)
              refine hK.out _ _ ((hHeld).trans hb1) (fun hHeld' => ?_)
              clear hK K hHeld hb1 hb0 hgr hO
              have hHeld := hHeld'
              clear hHeld'
              try simp only [Act.put, List.setIfInBounds_toArray, List.set_cons_zero, List.set_cons_succ]
              refine wpAnyH_ready (rs := [11]) (by kernel_rfl) (by simp) ?_
              refine AllReadyH.cons (o := ⟨some 46, _, _, _, _, _⟩) rfl (fun K hK => ?_) AllReadyH.nil
              refine step_appo rfl _ _ _ (by rfl) w.heap.size 3 (.int .i64 0) 1 8 Tryz.underlying26 info_int rfl (by decide) Vp2 (by rfl) ((0 + k + 1)) (([] ++ i64s (l.take k) ++ (#[Value.int .i64 a]).toList)) OWp2 lo hi _ (n - k) _ (i64s (l.drop k)) (by rfl) (HD.out.new hHeld) (ints_oneCell _ _) (by unfold maxLen; omega) (by omega) (by have := (hHeld).size; omega) ?_
              intro Vp3 x5 hO hb0 hgr
              have hsz0 := hb0.size
              have OWp3 := hO
              have hb1 := hb0.mono (show w.heap.size ≤ w.heap.size by omega)
              refine hK.out _ _ ((hHeld).trans hb1) (fun hHeld' => ?_)
              clear hK K hHeld hb1 hb0 hgr hO
              have hHeld := hHeld'
              clear hHeld'
              try simp only [Act.put, List.setIfInBounds_toArray, List.set_cons_zero, List.set_cons_succ]
              refine wpAnyH_take (i := 12) (oi := ⟨some 4, _, _, _, _, _⟩) (v := ?_) rfl (by kernel_rfl) (by kernel_rfl) (by kernel_rfl) (fun _ _ _ h => h) (Or.inl ⟨by kernel_rfl, ?_⟩) hHeld ?_
              rotate_left
              focus (intro W hS; skip; clear hS; first | (go_simp; done) | (go_simp; with_reducible rfl))
              try simp only [Act.put, List.setIfInBounds_toArray, List.set_cons_zero, List.set_cons_succ]
              refine wpAnyH_done (by kernel_rfl) ?_ _
              go_wp2_with fail
              go_ret
              have hO := OWp3
              have e1 : 0 + k + 1 + (n - k) = (l.take k ++ [a] ++ l.drop k).length := by have := HL.out; simp; omega
              have hdn : l.drop n = [] := List.drop_eq_nil_of_le (by have := HL.out; omega)
              have e2 : ([] ++ i64s (l.take k) ++ (#[Value.int .i64 a]).toList ++ i64s (l.drop k)) = i64s (l.take k ++ [a] ++ l.drop k) := by simp [i64s, hdn]
              rw [e1, e2, ← HE.out] at hO
              exact makes_of_own hO hHeld
            exact AllReadyH.nil
          refine AllReadyH.cons (o := ⟨some 41, _, _, _, _, _⟩) rfl (fun K hK => ?_) ?_
          · skip
            go_simp
            have Gb6 := box_new (x0) 3 #[.int .i64 a]
            have hb1 := (Below.refl (x0).heap.size (x0)).alloc (Nat.le_refl _) (.cells #[.int .i64 a] 3)
            have Lb6 : w.heap.size ≤ (x0).heap.size := by have := (hHeld).size; omega
            generalize (x0).alloc (.cells #[.int .i64 a] 3) = x1 at hb1 Gb6  ⊢
            generalize hg : (x0).heap.size = gb6 at Gb6 Lb6  ⊢
            clear hg
            refine hK.out _ _ (below_trans hHeld hb1 (Nat.le_refl _)) (fun hHeld' => ?_)
            clear hK K hHeld hb1
            have hHeld := hHeld'
            clear hHeld'
            try simp only [Act.put, List.setIfInBounds_toArray, List.set_cons_zero, List.set_cons_succ]
            refine wpAnyH_ready (rs := [0]) (by kernel_rfl) (by simp) ?_
            refine AllReadyH.cons (o := ⟨some 35, _, _, _, _, _⟩) rfl (fun K hK => ?_) AllReadyH.nil
            go_simp
            have Gb0 := box_new (x1) 3 #[]
            have hb1 := (Below.refl (x1).heap.size (x1)).alloc (Nat.le_refl _) (.cells #[] 3)
            have Lb0 : w.heap.size ≤ (x1).heap.size := by have := (hHeld).size; omega
            have Nb6b0 : gb6 < (x1).heap.size := Gb6.lt
            replace Gb6 := Gb6.new hb1
            generalize (x1).alloc (.cells #[] 3) = x2 at hb1 Gb0 Gb6 ⊢
            generalize hg : (x1).heap.size = gb0 at Gb0 Lb0 Nb6b0 ⊢
            clear hg
            refine hK.out _ _ (below_trans hHeld hb1 (Nat.le_refl _)) (fun hHeld' => ?_)
            clear hK K hHeld hb1
            have hHeld := hHeld'
            clear hHeld'
            try simp only [Act.put, List.setIfInBounds_toArray, List.set_cons_zero, List.set_cons_succ]
            refine wpAnyH_ready (rs := [4]) (by kernel_rfl) (by simp) ?_
            refine AllReadyH.cons (o := ⟨some 39, _, _, _, _, _⟩) rfl (fun K hK => ?_) AllReadyH.nil
            refine step_appo rfl _ _ _ (by rfl) w.heap.size 3 (.int .i64 0) 1 8 Tryz.underlying26 info_int rfl (by decide) (.slice (some ⟨gb0, 0, none⟩) 0 0) (by rfl) (0) ([]) (own_of_box Gb0 (by have := Lb0; omega)) lo hi (some ⟨b, off, none⟩) k c (i64s (l.take k)) (by rfl) (HT.out.new hHeld) (ints_oneCell _ _) (by unfold maxLen; omega) (by omega) (by have := (hHeld).size; omega) ?_
            intro Vp1 x3 hO hb0 hgr
            have hsz0 := hb0.size
            replace Gb6 := Gb6.grown (r := gb0) hgr (by omega)
            clear Gb0
            have OWp1 := hO
            have hb1 := hb0.mono (show w.heap.size ≤ w.heap.size by omega)
            refine hK.out _ _ ((hHeld).trans hb1) (fun hHeld' => ?_)
            clear hK K hHeld hb1 hb0 hgr hO
            have hHeld := hHeld'
            clear hHeld'
            try simp only [Act.put, List.setIfInBounds_toArray, List.set_cons_zero, List.set_cons_succ]
            refine wpAnyH_ready (rs := [7]) (by kernel_rfl) (by simp) ?_
            refine AllReadyH.cons (o := ⟨some 42, _, _, _, _, _⟩) rfl (fun K hK => ?_) AllReadyH.nil
            refine step_appo rfl _ _ _ (by rfl) w.heap.size 3 (.int .i64 0) 1 8 Tryz.underlying26 info_int rfl (by decide) Vp1 (by rfl) ((0 + k)) (([] ++ i64s (l.take k))) OWp1 gb6 (gb6 + 1) (some ⟨gb6, 0, none⟩) 1 1 (#[Value.int .i64 a]).toList (by rfl) (rd_boxp Gb6 1 rfl) (one_int a) (by unfold maxLen; omega) (by omega) (by have := (hHeld).size; omega) ?_
            intro Vp2 x4 hO hb0 hgr
            have hsz0 := hb0.size
            clear Gb6
            have OWp2 := hO
            have hb1 := hb0.mono (show w.heap.size ≤ w.heap.size by omega)
            refine hK.out _ _ ((hHeld).trans hb1) (fun hHeld' => ?_)
            clear hK K hHeld hb1 hb0 hgr hO
            have hHeld := hHeld'
            clear hHeld'
            try simp only [Act.put, List.setIfInBounds_toArray, List.set_cons_zero, List.set_cons_succ]
            refine wpAnyH_ready (rs := [11]) (by kernel_rfl) (by simp) ?_
            refine AllReadyH.cons (o := ⟨some 46, _, _, _, _, _⟩) rfl (fun K hK => ?_) AllReadyH.nil
            refine step_appo rfl _ _ _ (by rfl) w.heap.size 3 (.int .i64 0) 1 8 Tryz.underlying26 info_int rfl (by decide) Vp2 (by rfl) ((0 + k + 1)) (([] ++ i64s (l.take k) ++ (#[Value.int .i64 a]).toList)) OWp2 lo hi _ (n - k) _ (i64s (l.drop k)) (by rfl) (HD.out.new hHeld) (ints_oneCell _ _) (by unfold maxLen; omega) (by omega) (by have := (hHeld).size; omega) ?_
            intro Vp3 x5 hO hb0 hgr
            have hsz0 := hb0.size
            have OWp3 := hO
            have hb1 := hb0.mono (show w.heap.size ≤ w.heap.size by omega)
            refine hK.out _ _ ((hHeld).trans hb1) (fun hHeld' => ?_)
            clear hK K hHeld hb1 hb0 hgr hO
            have hHeld := hHeld'
            clear hHeld'
            try simp only [Act.put, List.setIfInBounds_toArray, List.set_cons_zero, List.set_cons_succ]
            refine wpAnyH_take (i := 12) (oi := ⟨some 4, _, _, _, _, _⟩) (v := ?_) rfl (by kernel_rfl) (by kernel_rfl) (by kernel_rfl) (fun _ _ _ h => h) (Or.inl ⟨by kernel_rfl, ?_⟩) hHeld ?_
            rotate_left
            focus (intro W hS; skip; clear hS; first | (go_simp; done) | (go_simp; with_reducible rfl))
            try simp only [Act.put, List.setIfInBounds_toArray, List.set_cons_zero, List.set_cons_succ]
            refine wpAnyH_done (by kernel_rfl) ?_ _
            go_wp2_with fail
            go_ret
            have hO := OWp3
            have e1 : 0 + k + 1 + (n - k) = (l.take k ++ [a] ++ l.drop k).length := by have := HL.out; simp; omega
            have hdn : l.drop n = [] := List.drop_eq_nil_of_le (by have := HL.out; omega)
            have e2 : ([] ++ i64s (l.take k) ++ (#[Value.int .i64 a]).toList ++ i64s (l.drop k)) = i64s (l.take k ++ [a] ++ l.drop k) := by simp [i64s, hdn]
            rw [e1, e2, ← HE.out] at hO
            exact makes_of_own hO hHeld
          exact AllReadyH.nil
    · obtain rfl : n = k := by omega
      have HE := Lib.hid (mPut_new HM.out (by have := HL.out; omega) (fun y hy => by have := (List.getElem?_eq_some_iff.1 hy).1; have := HL.out; omega))
      have HT := Lib.hid (rd_take HR.out (Nat.le_refl n))
      have hkc : n ≤ c := HC.out
      by_cases hcn : c = n
      · obtain rfl : n = c := hcn.symm
        go_wp2_with fail
        refine wp_region_held_drew (S := fun w' => Below w.heap.size w w') (by kernel_rfl) ?_ (fun hHeld => ?_)
        · exact (Below.refl w.heap.size w).drew
        generalize (World.drew _) = x0 at hHeld ⊢
        refine wpAnyH_take (i := 1) (oi := ⟨some 36, _, _, _, _, _⟩) (v := ?_) rfl (by kernel_rfl) (by kernel_rfl) (by kernel_rfl) (fun _ _ _ h => h) (Or.inl ⟨by kernel_rfl, ?_⟩) hHeld ?_
        rotate_left
        focus (intro W hS; skip; clear hS; first | (go_simp; done) | (go_simp; with_reducible rfl))
        try simp only [Act.put, List.setIfInBounds_toArray, List.set_cons_zero, List.set_cons_succ]
        refine wpAnyH_take (i := 2) (oi := ⟨some 37, _, _, _, _, _⟩) (v := ?_) rfl (by kernel_rfl) (by kernel_rfl) (by kernel_rfl) (fun _ _ _ h => h) (Or.inl ⟨by kernel_rfl, ?_⟩) hHeld ?_
        rotate_left
        focus (intro W hS; skip; clear hS; first | (go_simp; done) | (go_simp; with_reducible rfl))
        try simp only [Act.put, List.setIfInBounds_toArray, List.set_cons_zero, List.set_cons_succ]
        refine wpAnyH_take (i := 3) (oi := ⟨some 38, _, _, _, _, _⟩) (v := ?_) rfl (by kernel_rfl) (by kernel_rfl) (by kernel_rfl) (fun _ _ _ h => h) (Or.inl ⟨by kernel_rfl, ?_⟩) hHeld ?_
        rotate_left
        focus (intro W hS; skip; clear hS; first | (go_simp; done) | (go_simp; with_reducible rfl))
        try simp only [Act.put, List.setIfInBounds_toArray, List.set_cons_zero, List.set_cons_succ]
        refine wpAnyH_take (i := 5) (oi := ⟨some 40, _, _, _, _, _⟩) (v := ?_) rfl (by kernel_rfl) (by kernel_rfl) (by kernel_rfl) (fun _ _ _ h => h) (Or.inl ⟨by kernel_rfl, ?_⟩) hHeld ?_
        rotate_left
        focus (intro W hS; skip; clear hS; first | (go_simp; done) | (go_simp; with_reducible rfl))
        try simp only [Act.put, List.setIfInBounds_toArray, List.set_cons_zero, List.set_cons_succ]
        refine wpAnyH_take (i := 8) (oi := ⟨some 43, _, _, _, _, _⟩) (v := ?_) rfl (by kernel_rfl) (by kernel_rfl) (by kernel_rfl) (fun _ _ _ h => h) (Or.inl ⟨by kernel_rfl, ?_⟩) hHeld ?_
        rotate_left
        focus (intro W hS; skip; clear hS; first | (go_simp; done) | (go_simp; with_reducible rfl))
        try simp only [Act.put, List.setIfInBounds_toArray, List.set_cons_zero, List.set_cons_succ]
        refine wpAnyH_take (i := 9) (oi := ⟨some 44, _, _, _, _, _⟩) (v := ?_) rfl (by kernel_rfl) (by kernel_rfl) (by kernel_rfl) (fun _ _ _ h => h) (Or.inl ⟨by kernel_rfl, ?_⟩) hHeld ?_
        rotate_left
        focus (intro W hS; skip; clear hS; first | (go_simp; done) | (go_simp; with_reducible rfl))
        try simp only [Act.put, List.setIfInBounds_toArray, List.set_cons_zero, List.set_cons_succ]
        refine wpAnyH_take (i := 10) (oi := ⟨some 45, _, _, _, _, _⟩) (v := ?_) rfl (by kernel_rfl) (by kernel_rfl) (by kernel_rfl) (fun _ _ _ h => h) (Or.inl ⟨by kernel_rfl, ?_⟩) hHeld ?_
        rotate_left
        focus (intro W hS; skip; clear hS; first | (go_simp; done) | (go_simp; with_reducible rfl))
        try simp only [Act.put, List.setIfInBounds_toArray, List.set_cons_zero, List.set_cons_succ]
        refine wpAnyH_ready (rs := [0, 6]) (by kernel_rfl) (by simp) ?_
        refine AllReadyH.cons (o := ⟨some 35, _, _, _, _, _⟩) rfl (fun K hK => ?_) ?_
        · skip
          go_simp
          have Gb0 := box_new (x0) 3 #[]
          have hb1 := (Below.refl (x0).heap.size (x0)).alloc (Nat.le_refl _) (.cells #[] 3)
          have Lb0 : w.heap.size ≤ (x0).heap.size := by have := (hHeld).size; omega
          generalize (x0).alloc (.cells #[] 3) = x1 at hb1 Gb0  ⊢
          generalize hg : (x0).heap.size = gb0 at Gb0 Lb0  ⊢
          clear hg
          refine hK.out _ _ (below_trans hHeld hb1 (Nat.le_refl _)) (fun hHeld' => ?_)
          clear hK K hHeld hb1
          have hHeld := hHeld'
          clear hHeld'
          try simp only [Act.put, List.setIfInBounds_toArray, List.set_cons_zero, List.set_cons_succ]
          refine wpAnyH_ready (rs := [4, 6]) (by kernel_rfl) (by simp) ?_
          refine AllReadyH.cons (o := ⟨some 39, _, _, _, _, _⟩) rfl (fun K hK => ?_) ?_
          · skip
            refine step_appo rfl _ _ _ (by rfl) w.heap.size 3 (.int .i64 0) 1 8 Tryz.underlying26 info_int rfl (by decide) (.slice (some ⟨gb0, 0, none⟩) 0 0) (by rfl) (0) ([]) (own_of_box Gb0 (by have := Lb0; omega)) lo hi A n n (i64s (l.take n)) (by rfl) (HT.out.new hHeld) (ints_oneCell _ _) (by unfold maxLen; omega) (by omega) (by have := (hHeld).size; omega) ?_
            intro Vp1 x2 hO hb0 hgr
            have hsz0 := hb0.size
            clear Gb0
            have OWp1 := hO
            have hb1 := hb0.mono (show w.heap.size ≤ w.heap.size by omega)
            refine hK.out _ _ ((hHeld).trans hb1) (fun hHeld' => ?_)
            clear hK K hHeld hb1 hb0 hgr hO
            have hHeld := hHeld'
            clear hHeld'
            try simp only [Act.put, List.setIfInBounds_toArray, List.set_cons_zero, List.set_cons_succ]
            refine wpAnyH_ready (rs := [6]) (by kernel_rfl) (by simp) ?_
            refine AllReadyH.cons (o := ⟨some 41, _, _, _, _, _⟩) rfl (fun K hK => ?_) AllReadyH.nil
            go_simp
            have Gb6 := box_new (x2) 3 #[.int .i64 a]
            have hb1 := (Below.refl (x2).heap.size (x2)).alloc (Nat.le_refl _) (.cells #[.int .i64 a] 3)
            have Lb6 : w.heap.size ≤ (x2).heap.size := by have := (hHeld).size; omega
            replace OWp1 := own_newer OWp1 hb1
            generalize (x2).alloc (.cells #[.int .i64 a] 3) = x3 at hb1 Gb6 OWp1 ⊢
            generalize hg : (x2).heap.size = gb6 at Gb6 Lb6  ⊢
            clear hg
            refine hK.out _ _ (below_trans hHeld hb1 (Nat.le_refl _)) (fun hHeld' => ?_)
            clear hK K hHeld hb1
            have hHeld := hHeld'
            clear hHeld'
            try simp only [Act.put, List.setIfInBounds_toArray, List.set_cons_zero, List.set_cons_succ]
            refine wpAnyH_ready (rs := [7]) (by kernel_rfl) (by simp) ?_
            refine AllReadyH.cons (o := ⟨some 42, _, _, _, _, _⟩) rfl (fun K hK => ?_) AllReadyH.nil
            refine step_appo rfl _ _ _ (by rfl) w.heap.size 3 (.int .i64 0) 1 8 Tryz.underlying26 info_int rfl (by decide) Vp1 (by rfl) ((0 + n)) (([] ++ i64s (l.take n))) OWp1 gb6 (gb6 + 1) (some ⟨gb6, 0, none⟩) 1 1 (#[Value.int .i64 a]).toList (by rfl) (rd_boxp Gb6 1 rfl) (one_int a) (by unfold maxLen; omega) (by omega) (by have := (hHeld).size; omega) ?_
            intro Vp2 x4 hO hb0 hgr
            have hsz0 := hb0.size
            clear Gb6
            have OWp2 := hO
            have hb1 := hb0.mono (show w.heap.size ≤ w.heap.size by omega)
            refine hK.out _ _ ((hHeld).trans hb1) (fun hHeld' => ?_)
            clear hK K hHeld hb1 hb0 hgr hO
            have hHeld := hHeld'
            clear hHeld'
            try simp only [Act.put, List.setIfInBounds_toArray, List.set_cons_zero, List.set_cons_succ]
            refine wpAnyH_ready (rs := [11]) (by kernel_rfl) (by simp) ?_
            refine AllReadyH.cons (o := ⟨some 46, _, _, _, _, _⟩) rfl (fun K hK => ?_) AllReadyH.nil
            refine step_appo rfl _ _ _ (by rfl) w.heap.size 3 (.int .i64 0) 1 8 Tryz.underlying26 info_int rfl (by decide) Vp2 (by rfl) ((0 + n + 1)) (([] ++ i64s (l.take n) ++ (#[Value.int .i64 a]).toList)) OWp2 0 0 _ 0 _ [] (by rfl) (Rd.empty) (fun u hu => by cases hu) (by unfold maxLen; omega) (by omega) (by have := (hHeld).size; omega) ?_
            intro Vp3 x5 hO hb0 hgr
            have hsz0 := hb0.size
            have OWp3 := hO
            have hb1 := hb0.mono (show w.heap.size ≤ w.heap.size by omega)
            refine hK.out _ _ ((hHeld).trans hb1) (fun hHeld' => ?_)
            clear hK K hHeld hb1 hb0 hgr hO
            have hHeld := hHeld'
            clear hHeld'
            try simp only [Act.put, List.setIfInBounds_toArray, List.set_cons_zero, List.set_cons_succ]
            refine wpAnyH_take (i := 12) (oi := ⟨some 4, _, _, _, _, _⟩) (v := ?_) rfl (by kernel_rfl) (by kernel_rfl) (by kernel_rfl) (fun _ _ _ h => h) (Or.inl ⟨by kernel_rfl, ?_⟩) hHeld ?_
            rotate_left
            focus (intro W hS; skip; clear hS; first | (go_simp; done) | (go_simp; with_reducible rfl))
            try simp only [Act.put, List.setIfInBounds_toArray, List.set_cons_zero, List.set_cons_succ]
            refine wpAnyH_done (by kernel_rfl) ?_ _
            go_wp2_with fail
            go_ret
            have hO := OWp3
            have e1 : 0 + n + 1 + 0 = (l.take n ++ [a] ++ l.drop n).length := by have := HL.out; simp; omega
            have hdn : l.drop n = [] := List.drop_eq_nil_of_le (by have := HL.out; omega)
            have e2 : ([] ++ i64s (l.take n) ++ (#[Value.int .i64 a]).toList ++ []) = i64s (l.take n ++ [a] ++ l.drop n) := by simp [i64s, hdn]
            rw [e1, e2, ← HE.out] at hO
            exact makes_of_own hO hHeld
          refine AllReadyH.cons (o := ⟨some 41, _, _, _, _, _⟩) rfl (fun K hK => ?_) ?_
          · skip
            go_simp
            have Gb6 := box_new (x1) 3 #[.int .i64 a]
            have hb1 := (Below.refl (x1).heap.size (x1)).alloc (Nat.le_refl _) (.cells #[.int .i64 a] 3)
            have Lb6 : w.heap.size ≤ (x1).heap.size := by have := (hHeld).size; omega
            have Nb0b6 : gb0 < (x1).heap.size := Gb0.lt
            replace Gb0 := Gb0.new hb1
            generalize (x1).alloc (.cells #[.int .i64 a] 3) = x2 at hb1 Gb6 Gb0 ⊢
            generalize hg : (x1).heap.size = gb6 at Gb6 Lb6 Nb0b6 ⊢
            clear hg
            refine hK.out _ _ (below_trans hHeld hb1 (Nat.le_refl _)) (fun hHeld' => ?_)
            clear hK K hHeld hb1
            have hHeld := hHeld'
            clear hHeld'
            try simp only [Act.put, List.setIfInBounds_toArray, List.set_cons_zero, List.set_cons_succ]
            refine wpAnyH_ready (rs := [4]) (by kernel_rfl) (by simp) ?_
            refine AllReadyH.cons (o := ⟨some 39, _, _, _, _, _⟩) rfl (fun K hK => ?_) AllReadyH.nil
            refine step_appo rfl _ _ _ (by rfl) w.heap.size 3 (.int .i64 0) 1 8 Tryz.underlying26 info_int rfl (by decide) (.slice (some ⟨gb0, 0, none⟩) 0 0) (by rfl) (0) ([]) (own_of_box Gb0 (by have := Lb0; omega)) lo hi A n n (i64s (l.take n)) (by rfl) (HT.out.new hHeld) (ints_oneCell _ _) (by unfold maxLen; omega) (by omega) (by have := (hHeld).size; omega) ?_
            intro Vp1 x3 hO hb0 hgr
            have hsz0 := hb0.size
            clear Gb0
            replace Gb6 := Gb6.grown (r := gb0) hgr (by omega)
            have OWp1 := hO
            have hb1 := hb0.mono (show w.heap.size ≤ w.heap.size by omega)
            refine hK.out _ _ ((hHeld).trans hb1) (fun hHeld' => ?_)
            clear hK K hHeld hb1 hb0 hgr hO
            have hHeld := hHeld'
            clear hHeld'
            try simp only [Act.put, List.setIfInBounds_toArray, List.set_cons_zero, List.set_cons_succ]
            refine wpAnyH_ready (rs := [7]) (by kernel_rfl) (by simp) ?_
            refine AllReadyH.cons (o := ⟨some 42, _, _, _, _, _⟩) rfl (fun K hK => ?_) AllReadyH.nil
            refine step_appo rfl _ _ _ (by rfl) w.heap.size 3 (.int .i64 0) 1 8 Tryz.underlying26 info_int rfl (by decide) Vp1 (by rfl) ((0 + n)) (([] ++ i64s (l.take n))) OWp1 gb6 (gb6 + 1) (some ⟨gb6, 0, none⟩) 1 1 (#[Value.int .i64 a]).toList (by rfl) (rd_boxp Gb6 1 rfl) (one_int a) (by unfold maxLen; omega) (by omega) (by have := (hHeld).size; omega) ?_
            intro Vp2 x4 hO hb0 hgr
            have hsz0 := hb0.size
            clear Gb6
            have OWp2 := hO
            have hb1 := hb0.mono (show w.heap.size ≤ w.heap.size by omega)
            refine hK.out _ _ ((hHeld).trans hb1) (fun hHeld' => ?_)
            clear hK K hHeld hb1 hb0 hgr hO
            have hHeld := hHeld'
            clear hHeld'
            try simp only [Act.put, List.setIfInBounds_toArray, List.set_cons_zero, List.set_cons_succ]
            refine wpAnyH_ready (rs := [11]) (by kernel_rfl) (by simp) ?_
            refine AllReadyH.cons (o := ⟨some 46, _, _, _, _, _⟩) rfl (fun K hK => ?_) AllReadyH.nil
            refine step_appo rfl _ _ _ (by rfl) w.heap.size 3 (.int .i64 0) 1 8 Tryz.underlying26 info_int rfl (by decide) Vp2 (by rfl) ((0 + n + 1)) (([] ++ i64s (l.take n) ++ (#[Value.int .i64 a]).toList)) OWp2 0 0 _ 0 _ [] (by rfl) (Rd.empty) (fun u hu => by cases hu) (by unfold maxLen; omega) (by omega) (by have := (hHeld).size; omega) ?_
            intro Vp3 x5 hO hb0 hgr
            have hsz0 := hb0.size
            have OWp3 := hO
            have hb1 := hb0.mono (show w.heap.size ≤ w.heap.size by omega)
            refine hK.out _ _ ((hHeld).trans hb1) (fun hHeld' => ?_)
            clear hK K hHeld hb1 hb0 hgr hO
            have hHeld := hHeld'
            clear hHeld'
            try simp only [Act.put, List.setIfInBounds_toArray, List.set_cons_zero, List.set_cons_succ]
            refine wpAnyH_take (i := 12) (oi := ⟨some 4, _, _, _, _, _⟩) (v := ?_) rfl (by kernel_rfl) (by kernel_rfl) (by kernel_rfl) (fun _ _ _ h => h) (Or.inl ⟨by kernel_rfl, ?_⟩) hHeld ?_
            rotate_left
            focus (intro W hS; skip; clear hS; first | (go_simp; done) | (go_simp; with_reducible rfl))
            try simp only [Act.put, List.setIfInBounds_toArray, List.set_cons_zero, List.set_cons_succ]
            refine wpAnyH_done (by kernel_rfl) ?_ _
            go_wp2_with fail
            go_ret
            have hO := OWp3
            have e1 : 0 + n + 1 + 0 = (l.take n ++ [a] ++ l.drop n).length := by have := HL.out; simp; omega
            have hdn : l.drop n = [] := List.drop_eq_nil_of_le (by have := HL.out; omega)
            have e2 : ([] ++ i64s (l.take n) ++ (#[Value.int .i64 a]).toList ++ []) = i64s (l.take n ++ [a] ++ l.drop n) := by simp [i64s, hdn]
            rw [e1, e2, ← HE.out] at hO
            exact makes_of_own hO hHeld
          exact AllReadyH.nil
        refine AllReadyH.cons (o := ⟨some 41, _, _, _, _, _⟩) rfl (fun K hK => ?_) ?_
        · skip
          go_simp
          have Gb6 := box_new (x0) 3 #[.int .i64 a]
          have hb1 := (Below.refl (x0).heap.size (x0)).alloc (Nat.le_refl _) (.cells #[.int .i64 a] 3)
          have Lb6 : w.heap.size ≤ (x0).heap.size := by have := (hHeld).size; omega
          generalize (x0).alloc (.cells #[.int .i64 a] 3) = x1 at hb1 Gb6  ⊢
          generalize hg : (x0).heap.size = gb6 at Gb6 Lb6  ⊢
          clear hg
          refine hK.out _ _ (below_trans hHeld hb1 (Nat.le_refl _)) (fun hHeld' => ?_)
          clear hK K hHeld hb1
          have hHeld := hHeld'
          clear hHeld'
          try simp only [Act.put, List.setIfInBounds_toArray, List.set_cons_zero, List.set_cons_succ]
          refine wpAnyH_ready (rs := [0]) (by kernel_rfl) (by simp) ?_
          refine AllReadyH.cons (o := ⟨some 35, _, _, _, _, _⟩) rfl (fun K hK => ?_) AllReadyH.nil
          go_simp
          have Gb0 := box_new (x1) 3 #[]
          have hb1 := (Below.refl (x1).heap.size (x1)).alloc (Nat.le_refl _) (.cells #[] 3)
          have Lb0 : w.heap.size ≤ (x1).heap.size := by have := (hHeld).size; omega
          have Nb6b0 : gb6 < (x1).heap.size := Gb6.lt
          replace Gb6 := Gb6.new hb1
          generalize (x1).alloc (.cells #[] 3) = x2 at hb1 Gb0 Gb6 ⊢
          generalize hg : (x1).heap.size = gb0 at Gb0 Lb0 Nb6b0 ⊢
          clear hg
          refine hK.out _ _ (below_trans hHeld hb1 (Nat.le_refl _)) (fun hHeld' => ?_)
          clear hK K hHeld hb1
          have hHeld := hHeld'
          clear hHeld'
          try simp only [Act.put, List.setIfInBounds_toArray, List.set_cons_zero, List.set_cons_succ]
          refine wpAnyH_ready (rs := [4]) (by kernel_rfl) (by simp) ?_
          refine AllReadyH.cons (o := ⟨some 39, _, _, _, _, _⟩) rfl (fun K hK => ?_) AllReadyH.nil
          refine step_appo rfl _ _ _ (by rfl) w.heap.size 3 (.int .i64 0) 1 8 Tryz.underlying26 info_int rfl (by decide) (.slice (some ⟨gb0, 0, none⟩) 0 0) (by rfl) (0) ([]) (own_of_box Gb0 (by have := Lb0; omega)) lo hi A n n (i64s (l.take n)) (by rfl) (HT.out.new hHeld) (ints_oneCell _ _) (by unfold maxLen; omega) (by omega) (by have := (hHeld).size; omega) ?_
          intro Vp1 x3 hO hb0 hgr
          have hsz0 := hb0.size
          replace Gb6 := Gb6.grown (r := gb0) hgr (by omega)
          clear Gb0
          have OWp1 := hO
          have hb1 := hb0.mono (show w.heap.size ≤ w.heap.size by omega)
          refine hK.out _ _ ((hHeld).trans hb1) (fun hHeld' => ?_)
          clear hK K hHeld hb1 hb0 hgr hO
          have hHeld := hHeld'
          clear hHeld'
          try simp only [Act.put, List.setIfInBounds_toArray, List.set_cons_zero, List.set_cons_succ]
          refine wpAnyH_ready (rs := [7]) (by kernel_rfl) (by simp) ?_
          refine AllReadyH.cons (o := ⟨some 42, _, _, _, _, _⟩) rfl (fun K hK => ?_) AllReadyH.nil
          refine step_appo rfl _ _ _ (by rfl) w.heap.size 3 (.int .i64 0) 1 8 Tryz.underlying26 info_int rfl (by decide) Vp1 (by rfl) ((0 + n)) (([] ++ i64s (l.take n))) OWp1 gb6 (gb6 + 1) (some ⟨gb6, 0, none⟩) 1 1 (#[Value.int .i64 a]).toList (by rfl) (rd_boxp Gb6 1 rfl) (one_int a) (by unfold maxLen; omega) (by omega) (by have := (hHeld).size; omega) ?_
          intro Vp2 x4 hO hb0 hgr
          have hsz0 := hb0.size
          clear Gb6
          have OWp2 := hO
          have hb1 := hb0.mono (show w.heap.size ≤ w.heap.size by omega)
          refine hK.out _ _ ((hHeld).trans hb1) (fun hHeld' => ?_)
          clear hK K hHeld hb1 hb0 hgr hO
          have hHeld := hHeld'
          clear hHeld'
          try simp only [Act.put, List.setIfInBounds_toArray, List.set_cons_zero, List.set_cons_succ]
          refine wpAnyH_ready (rs := [11]) (by kernel_rfl) (by simp) ?_
          refine AllReadyH.cons (o := ⟨some 46, _, _, _, _, _⟩) rfl (fun K hK => ?_) AllReadyH.nil
          refine step_appo rfl _ _ _ (by rfl) w.heap.size 3 (.int .i64 0) 1 8 Tryz.underlying26 info_int rfl (by decide) Vp2 (by rfl) ((0 + n + 1)) (([] ++ i64s (l.take n) ++ (#[Value.int .i64 a]).toList)) OWp2 0 0 _ 0 _ [] (by rfl) (Rd.empty) (fun u hu => by cases hu) (by unfold maxLen; omega) (by omega) (by have := (hHeld).size; omega) ?_
          intro Vp3 x5 hO hb0 hgr
          have hsz0 := hb0.size
          have OWp3 := hO
          have hb1 := hb0.mono (show w.heap.size ≤ w.heap.size by omega)
          refine hK.out _ _ ((hHeld).trans hb1) (fun hHeld' => ?_)
          clear hK K hHeld hb1 hb0 hgr hO
          have hHeld := hHeld'
          clear hHeld'
          try simp only [Act.put, List.setIfInBounds_toArray, List.set_cons_zero, List.set_cons_succ]
          refine wpAnyH_take (i := 12) (oi := ⟨some 4, _, _, _, _, _⟩) (v := ?_) rfl (by kernel_rfl) (by kernel_rfl) (by kernel_rfl) (fun _ _ _ h => h) (Or.inl ⟨by kernel_rfl, ?_⟩) hHeld ?_
          rotate_left
          focus (intro W hS; skip; clear hS; first | (go_simp; done) | (go_simp; with_reducible rfl))
          try simp only [Act.put, List.setIfInBounds_toArray, List.set_cons_zero, List.set_cons_succ]
          refine wpAnyH_done (by kernel_rfl) ?_ _
          go_wp2_with fail
          go_ret
          have hO := OWp3
          have e1 : 0 + n + 1 + 0 = (l.take n ++ [a] ++ l.drop n).length := by have := HL.out; simp; omega
          have hdn : l.drop n = [] := List.drop_eq_nil_of_le (by have := HL.out; omega)
          have e2 : ([] ++ i64s (l.take n) ++ (#[Value.int .i64 a]).toList ++ []) = i64s (l.take n ++ [a] ++ l.drop n) := by simp [i64s, hdn]
          rw [e1, e2, ← HE.out] at hO
          exact makes_of_own hO hHeld
        exact AllReadyH.nil
      · skip
        go_wp2_with fail
        refine wp_region_held_drew (S := fun w' => Below w.heap.size w w') (by kernel_rfl) ?_ (fun hHeld => ?_)
        · exact (Below.refl w.heap.size w).drew
        generalize (World.drew _) = x0 at hHeld ⊢
        refine wpAnyH_take (i := 1) (oi := ⟨some 36, _, _, _, _, _⟩) (v := ?_) rfl (by kernel_rfl) (by kernel_rfl) (by kernel_rfl) (fun _ _ _ h => h) (Or.inl ⟨by kernel_rfl, ?_⟩) hHeld ?_
        rotate_left
        focus (intro W hS; skip; clear hS; first | (go_simp; done) | (go_simp; with_reducible rfl))
        try simp only [Act.put, List.setIfInBounds_toArray, List.set_cons_zero, List.set_cons_succ]
        refine wpAnyH_take (i := 2) (oi := ⟨some 37, _, _, _, _, _⟩) (v := ?_) rfl (by kernel_rfl) (by kernel_rfl) (by kernel_rfl) (fun _ _ _ h => h) (Or.inl ⟨by kernel_rfl, ?_⟩) hHeld ?_
        rotate_left
        focus (intro W hS; skip; clear hS; first | (go_simp; done) | (go_simp; with_reducible rfl))
        try simp only [Act.put, List.setIfInBounds_toArray, List.set_cons_zero, List.set_cons_succ]
        refine wpAnyH_take (i := 3) (oi := ⟨some 38, _, _, _, _, _⟩) (v := ?_) rfl (by kernel_rfl) (by kernel_rfl) (by kernel_rfl) (fun _ _ _ h => h) (Or.inl ⟨by kernel_rfl, ?_⟩) hHeld ?_
        rotate_left
        focus (intro W hS; skip; clear hS; first | (go_simp; done) | (go_simp; with_reducible rfl))
        try simp only [Act.put, List.setIfInBounds_toArray, List.set_cons_zero, List.set_cons_succ]
        refine wpAnyH_take (i := 5) (oi := ⟨some 40, _, _, _, _, _⟩) (v := ?_) rfl (by kernel_rfl) (by kernel_rfl) (by kernel_rfl) (fun _ _ _ h => h) (Or.inl ⟨by kernel_rfl, ?_⟩) hHeld ?_
        rotate_left
        focus (intro W hS; skip; clear hS; first | (go_simp; done) | (go_simp; with_reducible rfl))
        try simp only [Act.put, List.setIfInBounds_toArray, List.set_cons_zero, List.set_cons_succ]
        refine wpAnyH_take (i := 8) (oi := ⟨some 43, _, _, _, _, _⟩) (v := ?_) rfl (by kernel_rfl) (by kernel_rfl) (by kernel_rfl) (fun _ _ _ h => h) (Or.inl ⟨by kernel_rfl, ?_⟩) hHeld ?_
        rotate_left
        focus (intro W hS; skip; clear hS; first | (go_simp; done) | (go_simp; with_reducible rfl))
        try simp only [Act.put, List.setIfInBounds_toArray, List.set_cons_zero, List.set_cons_succ]
        refine wpAnyH_take (i := 9) (oi := ⟨some 44, _, _, _, _, _⟩) (v := ?_) rfl (by kernel_rfl) (by kernel_rfl) (by kernel_rfl) (fun _ _ _ h => h) (Or.inl ⟨by kernel_rfl, ?_⟩) hHeld ?_
        rotate_left
        focus (intro W hS; skip; clear hS; first | (go_simp; done) | (go_simp; with_reducible rfl))
        try simp only [Act.put, List.setIfInBounds_toArray, List.set_cons_zero, List.set_cons_succ]
        refine wpAnyH_take (i := 10) (oi := ⟨some 45, _, _, _, _, _⟩) (v := ?_) rfl (by kernel_rfl) (by kernel_rfl) (by kernel_rfl) (fun _ _ _ h => h) (Or.inl ⟨by kernel_rfl, ?_⟩) hHeld ?_
        rotate_left
        focus (intro W hS; skip; clear hS; first | (go_simp; done) | (go_simp; with_reducible rfl))
        try simp only [Act.put, List.setIfInBounds_toArray, List.set_cons_zero, List.set_cons_succ]
        refine wpAnyH_ready (rs := [0, 6]) (by kernel_rfl) (by simp) ?_
        refine AllReadyH.cons (o := ⟨some 35, _, _, _, _, _⟩) rfl (fun K hK => ?_) ?_
        · skip
          go_simp
          have Gb0 := box_new (x0) 3 #[]
          have hb1 := (Below.refl (x0).heap.size (x0)).alloc (Nat.le_refl _) (.cells #[] 3)
          have Lb0 : w.heap.size ≤ (x0).heap.size := by have := (hHeld).size; omega
          generalize (x0).alloc (.cells #[] 3) = x1 at hb1 Gb0  ⊢
          generalize hg : (x0).heap.size = gb0 at Gb0 Lb0  ⊢
          clear hg
          refine hK.out _ _ (below_trans hHeld hb1 (Nat.le_refl _)) (fun hHeld' => ?_)
          clear hK K hHeld hb1
          have hHeld := hHeld'
          clear hHeld'
          try simp only [Act.put, List.setIfInBounds_toArray, List.set_cons_zero, List.set_cons_succ]
          refine wpAnyH_ready (rs := [4, 6]) (by kernel_rfl) (by simp) ?_
          refine AllReadyH.cons (o := ⟨some 39, _, _, _, _, _⟩) rfl (fun K hK => ?_) ?_
          · skip
            refine step_appo rfl _ _ _ (by rfl) w.heap.size 3 (.int .i64 0) 1 8 Tryz.underlying26 info_int rfl (by decide) (.slice (some ⟨gb0, 0, none⟩) 0 0) (by rfl) (0) ([]) (own_of_box Gb0 (by have := Lb0; omega)) lo hi A n c (i64s (l.take n)) (by rfl) (HT.out.new hHeld) (ints_oneCell _ _) (by unfold maxLen; omega) (by omega) (by have := (hHeld).size; omega) ?_
            intro Vp1 x2 hO hb0 hgr
            have hsz0 := hb0.size
            clear Gb0
            have OWp1 := hO
            have hb1 := hb0.mono (show w.heap.size ≤ w.heap.size by omega)
            refine hK.out _ _ ((hHeld).trans hb1) (fun hHeld' => ?_)
            clear hK K hHeld hb1 hb0 hgr hO
            have hHeld := hHeld'
            clear hHeld'
            try simp only [Act.put, List.setIfInBounds_toArray, List.set_cons_zero, List.set_cons_succ]
            refine wpAnyH_ready (rs := [6]) (by kernel_rfl) (by simp) ?_
            refine AllReadyH.cons (o := ⟨some 41, _, _, _, _, _⟩) rfl (fun K hK => ?_) AllReadyH.nil
            go_simp
            have Gb6 := box_new (x2) 3 #[.int .i64 a]
            have hb1 := (Below.refl (x2).heap.size (x2)).alloc (Nat.le_refl _) (.cells #[.int .i64 a] 3)
            have Lb6 : w.heap.size ≤ (x2).heap.size := by have := (hHeld).size; omega
            replace OWp1 := own_newer OWp1 hb1
            generalize (x2).alloc (.cells #[.int .i64 a] 3) = x3 at hb1 Gb6 OWp1 ⊢
            generalize hg : (x2).heap.size = gb6 at Gb6 Lb6  ⊢
            clear hg
            refine hK.out _ _ (below_trans hHeld hb1 (Nat.le_refl _)) (fun hHeld' => ?_)
            clear hK K hHeld hb1
            have hHeld := hHeld'
            clear hHeld'
            try simp only [Act.put, List.setIfInBounds_toArray, List.set_cons_zero, List.set_cons_succ]
            refine wpAnyH_ready (rs := [7]) (by kernel_rfl) (by simp) ?_
            refine AllReadyH.cons (o := ⟨some 42, _, _, _, _, _⟩) rfl (fun K hK => ?_) AllReadyH.nil
            refine step_appo rfl _ _ _ (by rfl) w.heap.size 3 (.int .i64 0) 1 8 Tryz.underlying26 info_int rfl (by decide) Vp1 (by rfl) ((0 + n)) (([] ++ i64s (l.take n))) OWp1 gb6 (gb6 + 1) (some ⟨gb6, 0, none⟩) 1 1 (#[Value.int .i64 a]).toList (by rfl) (rd_boxp Gb6 1 rfl) (one_int a) (by unfold maxLen; omega) (by omega) (by have := (hHeld).size; omega) ?_
            intro Vp2 x4 hO hb0 hgr
            have hsz0 := hb0.size
            clear Gb6
            have OWp2 := hO
            have hb1 := hb0.mono (show w.heap.size ≤ w.heap.size by omega)
            refine hK.out _ _ ((hHeld).trans hb1) (fun hHeld' => ?_)
            clear hK K hHeld hb1 hb0 hgr hO
            have hHeld := hHeld'
            clear hHeld'
            try simp only [Act.put, List.setIfInBounds_toArray, List.set_cons_zero, List.set_cons_succ]
            refine wpAnyH_ready (rs := [11]) (by kernel_rfl) (by simp) ?_
            refine AllReadyH.cons (o := ⟨some 46, _, _, _, _, _⟩) rfl (fun K hK => ?_) AllReadyH.nil
            refine step_appo rfl _ _ _ (by rfl) w.heap.size 3 (.int .i64 0) 1 8 Tryz.underlying26 info_int rfl (by decide) Vp2 (by rfl) ((0 + n + 1)) (([] ++ i64s (l.take n) ++ (#[Value.int .i64 a]).toList)) OWp2 0 0 _ 0 _ [] (by rfl) (Rd.empty) (fun u hu => by cases hu) (by unfold maxLen; omega) (by omega) (by have := (hHeld).size; omega) ?_
            intro Vp3 x5 hO hb0 hgr
            have hsz0 := hb0.size
            have OWp3 := hO
            have hb1 := hb0.mono (show w.heap.size ≤ w.heap.size by omega)
            refine hK.out _ _ ((hHeld).trans hb1) (fun hHeld' => ?_)
            clear hK K hHeld hb1 hb0 hgr hO
            have hHeld := hHeld'
            clear hHeld'
            try simp only [Act.put, List.setIfInBounds_toArray, List.set_cons_zero, List.set_cons_succ]
            refine wpAnyH_take (i := 12) (oi := ⟨some 4, _, _, _, _, _⟩) (v := ?_) rfl (by kernel_rfl) (by kernel_rfl) (by kernel_rfl) (fun _ _ _ h => h) (Or.inl ⟨by kernel_rfl, ?_⟩) hHeld ?_
            rotate_left
            focus (intro W hS; skip; clear hS; first | (go_simp; done) | (go_simp; with_reducible rfl))
            try simp only [Act.put, List.setIfInBounds_toArray, List.set_cons_zero, List.set_cons_succ]
            refine wpAnyH_done (by kernel_rfl) ?_ _
            go_wp2_with fail
            go_ret
            have hO := OWp3
            have e1 : 0 + n + 1 + 0 = (l.take n ++ [a] ++ l.drop n).length := by have := HL.out; simp; omega
            have hdn : l.drop n = [] := List.drop_eq_nil_of_le (by have := HL.out; omega)
            have e2 : ([] ++ i64s (l.take n) ++ (#[Value.int .i64 a]).toList ++ []) = i64s (l.take n ++ [a] ++ l.drop n) := by simp [i64s, hdn]
            rw [e1, e2, ← HE.out] at hO
            exact makes_of_own hO hHeld
          refine AllReadyH.cons (o := ⟨some 41, _, _, _, _, _⟩) rfl (fun K hK => ?_) ?_
          · skip
            go_simp
            have Gb6 := box_new (x1) 3 #[.int .i64 a]
            have hb1 := (Below.refl (x1).heap.size (x1)).alloc (Nat.le_refl _) (.cells #[.int .i64 a] 3)
            have Lb6 : w.heap.size ≤ (x1).heap.size := by have := (hHeld).size; omega
            have Nb0b6 : gb0 < (x1).heap.size := Gb0.lt
            replace Gb0 := Gb0.new hb1
            generalize (x1).alloc (.cells #[.int .i64 a] 3) = x2 at hb1 Gb6 Gb0 ⊢
            generalize hg : (x1).heap.size = gb6 at Gb6 Lb6 Nb0b6 ⊢
            clear hg
            refine hK.out _ _ (below_trans hHeld hb1 (Nat.le_refl _)) (fun hHeld' => ?_)
            clear hK K hHeld hb1
            have hHeld := hHeld'
            clear hHeld'
            try simp only [Act.put, List.setIfInBounds_toArray, List.set_cons_zero, List.set_cons_succ]
            refine wpAnyH_ready (rs := [4]) (by kernel_rfl) (by simp) ?_
            refine AllReadyH.cons (o := ⟨some 39, _, _, _, _, _⟩) rfl (fun K hK => ?_) AllReadyH.nil
            refine step_appo rfl _ _ _ (by rfl) w.heap.size 3 (.int .i64 0) 1 8 Tryz.underlying26 info_int rfl (by decide) (.slice (some ⟨gb0, 0, none⟩) 0 0) (by rfl) (0) ([]) (own_of_box Gb0 (by have := Lb0; omega)) lo hi A n c (i64s (l.take n)) (by rfl) (HT.out.new hHeld) (ints_oneCell _ _) (by unfold maxLen; omega) (by omega) (by have := (hHeld).size; omega) ?_
            intro Vp1 x3 hO hb0 hgr
            have hsz0 := hb0.size
            clear Gb0
            replace Gb6 := Gb6.grown (r := gb0) hgr (by omega)
            have OWp1 := hO
            have hb1 := hb0.mono (show w.heap.size ≤ w.heap.size by omega)
            refine hK.out _ _ ((hHeld).trans hb1) (fun hHeld' => ?_)
            clear hK K hHeld hb1 hb0 hgr hO
            have hHeld := hHeld'
            clear hHeld'
            try simp only [Act.put, List.setIfInBounds_toArray, List.set_cons_zero, List.set_cons_succ]
            refine wpAnyH_ready (rs := [7]) (by kernel_rfl) (by simp) ?_
            refine AllReadyH.cons (o := ⟨some 42, _, _, _, _, _⟩) rfl (fun K hK => ?_) AllReadyH.nil
            refine step_appo rfl _ _ _ (by rfl) w.heap.size 3 (.int .i64 0) 1 8 Tryz.underlying26 info_int rfl (by decide) Vp1 (by rfl) ((0 + n)) (([] ++ i64s (l.take n))) OWp1 gb6 (gb6 + 1) (some ⟨gb6, 0, none⟩) 1 1 (#[Value.int .i64 a]).toList (by rfl) (rd_boxp Gb6 1 rfl) (one_int a) (by unfold maxLen; omega) (by omega) (by have := (hHeld).size; omega) ?_
            intro Vp2 x4 hO hb0 hgr
            have hsz0 := hb0.size
            clear Gb6
            have OWp2 := hO
            have hb1 := hb0.mono (show w.heap.size ≤ w.heap.size by omega)
            refine hK.out _ _ ((hHeld).trans hb1) (fun hHeld' => ?_)
            clear hK K hHeld hb1 hb0 hgr hO
            have hHeld := hHeld'
            clear hHeld'
            try simp only [Act.put, List.setIfInBounds_toArray, List.set_cons_zero, List.set_cons_succ]
            refine wpAnyH_ready (rs := [11]) (by kernel_rfl) (by simp) ?_
            refine AllReadyH.cons (o := ⟨some 46, _, _, _, _, _⟩) rfl (fun K hK => ?_) AllReadyH.nil
            refine step_appo rfl _ _ _ (by rfl) w.heap.size 3 (.int .i64 0) 1 8 Tryz.underlying26 info_int rfl (by decide) Vp2 (by rfl) ((0 + n + 1)) (([] ++ i64s (l.take n) ++ (#[Value.int .i64 a]).toList)) OWp2 0 0 _ 0 _ [] (by rfl) (Rd.empty) (fun u hu => by cases hu) (by unfold maxLen; omega) (by omega) (by have := (hHeld).size; omega) ?_
            intro Vp3 x5 hO hb0 hgr
            have hsz0 := hb0.size
            have OWp3 := hO
            have hb1 := hb0.mono (show w.heap.size ≤ w.heap.size by omega)
            refine hK.out _ _ ((hHeld).trans hb1) (fun hHeld' => ?_)
            clear hK K hHeld hb1 hb0 hgr hO
            have hHeld := hHeld'
            clear hHeld'
            try simp only [Act.put, List.setIfInBounds_toArray, List.set_cons_zero, List.set_cons_succ]
            refine wpAnyH_take (i := 12) (oi := ⟨some 4, _, _, _, _, _⟩) (v := ?_) rfl (by kernel_rfl) (by kernel_rfl) (by kernel_rfl) (fun _ _ _ h => h) (Or.inl ⟨by kernel_rfl, ?_⟩) hHeld ?_
            rotate_left
            focus (intro W hS; skip; clear hS; first | (go_simp; done) | (go_simp; with_reducible rfl))
            try simp only [Act.put, List.setIfInBounds_toArray, List.set_cons_zero, List.set_cons_succ]
            refine wpAnyH_done (by kernel_rfl) ?_ _
            go_wp2_with fail
            go_ret
            have hO := OWp3
            have e1 : 0 + n + 1 + 0 = (l.take n ++ [a] ++ l.drop n).length := by have := HL.out; simp; omega
            have hdn : l.drop n = [] := List.drop_eq_nil_of_le (by have := HL.out; omega)
            have e2 : ([] ++ i64s (l.take n) ++ (#[Value.int .i64 a]).toList ++ []) = i64s (l.take n ++ [a] ++ l.drop n) := by simp [i64s, hdn]
            rw [e1, e2, ← HE.out] at hO
            exact makes_of_own hO hHeld
          exact AllReadyH.nil
        refine AllReadyH.cons (o := ⟨some 41, _, _, _, _, _⟩) rfl (fun K hK => ?_) ?_
        · skip
          go_simp
          have Gb6 := box_new (x0) 3 #[.int .i64 a]
          have hb1 := (Below.refl (x0).heap.size (x0)).alloc (Nat.le_refl _) (.cells #[.int .i64 a] 3)
          have Lb6 : w.heap.size ≤ (x0).heap.size := by have := (hHeld).size; omega
          generalize (x0).alloc (.cells #[.int .i64 a] 3) = x1 at hb1 Gb6  ⊢
          generalize hg : (x0).heap.size = gb6 at Gb6 Lb6  ⊢
          clear hg
          refine hK.out _ _ (below_trans hHeld hb1 (Nat.le_refl _)) (fun hHeld' => ?_)
          clear hK K hHeld hb1
          have hHeld := hHeld'
          clear hHeld'
          try simp only [Act.put, List.setIfInBounds_toArray, List.set_cons_zero, List.set_cons_succ]
          refine wpAnyH_ready (rs := [0]) (by kernel_rfl) (by simp) ?_
          refine AllReadyH.cons (o := ⟨some 35, _, _, _, _, _⟩) rfl (fun K hK => ?_) AllReadyH.nil
          go_simp
          have Gb0 := box_new (x1) 3 #[]
          have hb1 := (Below.refl (x1).heap.size (x1)).alloc (Nat.le_refl _) (.cells #[] 3)
          have Lb0 : w.heap.size ≤ (x1).heap.size := by have := (hHeld).size; omega
          have Nb6b0 : gb6 < (x1).heap.size := Gb6.lt
          replace Gb6 := Gb6.new hb1
          generalize (x1).alloc (.cells #[] 3) = x2 at hb1 Gb0 Gb6 ⊢
          generalize hg : (x1).heap.size = gb0 at Gb0 Lb0 Nb6b0 ⊢
          clear hg
          refine hK.out _ _ (below_trans hHeld hb1 (Nat.le_refl _)) (fun hHeld' => ?_)
          clear hK K hHeld hb1
          have hHeld := hHeld'
          clear hHeld'
          try simp only [Act.put, List.setIfInBounds_toArray, List.set_cons_zero, List.set_cons_succ]
          refine wpAnyH_ready (rs := [4]) (by kernel_rfl) (by simp) ?_
          refine AllReadyH.cons (o := ⟨some 39, _, _, _, _, _⟩) rfl (fun K hK => ?_) AllReadyH.nil
          refine step_appo rfl _ _ _ (by rfl) w.heap.size 3 (.int .i64 0) 1 8 Tryz.underlying26 info_int rfl (by decide) (.slice (some ⟨gb0, 0, none⟩) 0 0) (by rfl) (0) ([]) (own_of_box Gb0 (by have := Lb0; omega)) lo hi A n c (i64s (l.take n)) (by rfl) (HT.out.new hHeld) (ints_oneCell _ _) (by unfold maxLen; omega) (by omega) (by have := (hHeld).size; omega) ?_
          intro Vp1 x3 hO hb0 hgr
          have hsz0 := hb0.size
          replace Gb6 := Gb6.grown (r := gb0) hgr (by omega)
          clear Gb0
          have OWp1 := hO
          have hb1 := hb0.mono (show w.heap.size ≤ w.heap.size by omega)
          refine hK.out _ _ ((hHeld).trans hb1) (fun hHeld' => ?_)
          clear hK K hHeld hb1 hb0 hgr hO
          have hHeld := hHeld'
          clear hHeld'
          try simp only [Act.put, List.setIfInBounds_toArray, List.set_cons_zero, List.set_cons_succ]
          refine wpAnyH_ready (rs := [7]) (by kernel_rfl) (by simp) ?_
          refine AllReadyH.cons (o := ⟨some 42, _, _, _, _, _⟩) rfl (fun K hK => ?_) AllReadyH.nil
          refine step_appo rfl _ _ _ (by rfl) w.heap.size 3 (.int .i64 0) 1 8 Tryz.underlying26 info_int rfl (by decide) Vp1 (by rfl) ((0 + n)) (([] ++ i64s (l.take n))) OWp1 gb6 (gb6 + 1) (some ⟨gb6, 0, none⟩) 1 1 (#[Value.int .i64 a]).toList (by rfl) (rd_boxp Gb6 1 rfl) (one_int a) (by unfold maxLen; omega) (by omega) (by have := (hHeld).size; omega) ?_
          intro Vp2 x4 hO hb0 hgr
          have hsz0 := hb0.size
          clear Gb6
          have OWp2 := hO
          have hb1 := hb0.mono (show w.heap.size ≤ w.heap.size by omega)
          refine hK.out _ _ ((hHeld).trans hb1) (fun hHeld' => ?_)
          clear hK K hHeld hb1 hb0 hgr hO
          have hHeld := hHeld'
          clear hHeld'
          try simp only [Act.put, List.setIfInBounds_toArray, List.set_cons_zero, List.set_cons_succ]
          refine wpAnyH_ready (rs := [11]) (by kernel_rfl) (by simp) ?_
          refine AllReadyH.cons (o := ⟨some 46, _, _, _, _, _⟩) rfl (fun K hK => ?_) AllReadyH.nil
          refine step_appo rfl _ _ _ (by rfl) w.heap.size 3 (.int .i64 0) 1 8 Tryz.underlying26 info_int rfl (by decide) Vp2 (by rfl) ((0 + n + 1)) (([] ++ i64s (l.take n) ++ (#[Value.int .i64 a]).toList)) OWp2 0 0 _ 0 _ [] (by rfl) (Rd.empty) (fun u hu => by cases hu) (by unfold maxLen; omega) (by omega) (by have := (hHeld).size; omega) ?_
          intro Vp3 x5 hO hb0 hgr
          have hsz0 := hb0.size
          have OWp3 := hO
          have hb1 := hb0.mono (show w.heap.size ≤ w.heap.size by omega)
          refine hK.out _ _ ((hHeld).trans hb1) (fun hHeld' => ?_)
          clear hK K hHeld hb1 hb0 hgr hO
          have hHeld := hHeld'
          clear hHeld'
          try simp only [Act.put, List.setIfInBounds_toArray, List.set_cons_zero, List.set_cons_succ]
          refine wpAnyH_take (i := 12) (oi := ⟨some 4, _, _, _, _, _⟩) (v := ?_) rfl (by kernel_rfl) (by kernel_rfl) (by kernel_rfl) (fun _ _ _ h => h) (Or.inl ⟨by kernel_rfl, ?_⟩) hHeld ?_
          rotate_left
          focus (intro W hS; skip; clear hS; first | (go_simp; done) | (go_simp; with_reducible rfl))
          try simp only [Act.put, List.setIfInBounds_toArray, List.set_cons_zero, List.set_cons_succ]
          refine wpAnyH_done (by kernel_rfl) ?_ _
          go_wp2_with fail
          go_ret
          have hO := OWp3
          have e1 : 0 + n + 1 + 0 = (l.take n ++ [a] ++ l.drop n).length := by have := HL.out; simp; omega
          have hdn : l.drop n = [] := List.drop_eq_nil_of_le (by have := HL.out; omega)
          have e2 : ([] ++ i64s (l.take n) ++ (#[Value.int .i64 a]).toList ++ []) = i64s (l.take n ++ [a] ++ l.drop n) := by simp [i64s, hdn]
          rw [e1, e2, ← HE.out] at hO
          exact makes_of_own hO hHeld
        exact AllReadyH.nil
end Go.Proofs.YtejcioenoofjlaaGreat
