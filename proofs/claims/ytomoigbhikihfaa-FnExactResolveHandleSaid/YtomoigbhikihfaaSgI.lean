/- What a world sees, in the program: the walk down from the root, look, SeenBy. -/
import Derived.Test.YtomoigbhikihfaaSgM
import Derived.Test.YtomoigbhikihfaaMapC
import Derived.Test.YtomoigbhikihfaaIxI
import Derived.Test.YtomoigbhikihfaaFun
import Derived.Deep.RegionHeld3
import Derived.Deep.LoopGhost
namespace Go.Proofs.Ytomoigbhikihfaa
open Go Go.ChangeShapes Go.WideShapes Go.ChangeAt Go.RowKit Go.Lib
set_option linter.unusedVariables false
set_option linter.unusedSimpArgs false
set_option maxRecDepth 100000

theorem any_contains (l : List Int) (z : Int) : (l.any fun x => decide (z = x)) = l.contains z := by
  rw [Bool.eq_iff_iff]; simp
section
variable {w w' : World} {b n lo hi : Nat} {f : Int → Option Int} {s : Int → Bool}
theorem MapAt.chg (h : MapAt w b n f) (hc : Chg lo hi w w') (hd : ¬ (lo ≤ b ∧ b < hi)) : MapAt w' b n f := h.keep (hc.block b h.lt hd)
theorem MapB.chg (h : MapB w b n s) (hc : Chg lo hi w w') (hd : ¬ (lo ≤ b ∧ b < hi)) : MapB w' b n s := h.keep (hc.block b h.lt hd)
theorem MapB.alloc_ (h : MapB w b n s) (o : Obj) : MapB (w.alloc o) b n s := h.keep (Below.heap_alloc w o b h.lt)
end
/-- What the walk reads: the boxes that it has captured, the index of the nodes, the nodes and what is hidden. Block M is the map that it writes. -/
structure WalkAt (w : World) (l : List TNode) (A : Option Addr) (n c : Nat) (h : List Int) (A1 : Option Addr) (n1 c1 : Nat) (b : Int) (D S Y Hd W B M : Nat) : Prop where
  d : BoxAt w D 25 #[.slice A n c]
  s : BoxAt w S 62 #[.slice A n c, .map (some B), .map (some M)]
  y : BoxAt w Y 3 #[.int .i64 b]
  p : BoxAt w Hd 23 #[.slice A1 n1 c1]
  f : BoxAt w W 85 #[.func (.func 63) #[] #[.pointer (some ⟨D, 0, none⟩), .pointer (some ⟨S, 0, none⟩), .pointer (some ⟨Y, 0, none⟩), .pointer (some ⟨Hd, 0, none⟩), .pointer (some ⟨W, 0, none⟩)]]
  i : MapAt w B n (idx l)
  r : Rd w 0 M 5 A n (cNode l)
  q : Rd w 0 M 1 A1 n1 (i64s h)
  nd : D ≠ M ∧ S ≠ M ∧ Y ≠ M ∧ Hd ≠ M ∧ W ≠ M ∧ B ≠ M
section
variable {w w' : World} {l : List TNode} {A A1 : Option Addr} {n c n1 c1 : Nat} {h : List Int} {b : Int} {D S Y Hd W B M : Nat}
theorem WalkAt.chg (k : WalkAt w l A n c h A1 n1 c1 b D S Y Hd W B M) (hc : Chg M (M + 1) w w') : WalkAt w' l A n c h A1 n1 c1 b D S Y Hd W B M := by
  obtain ⟨h1, h2, h3, h4, h5, h6⟩ := k.nd
  exact ⟨k.d.chg hc (by omega), k.s.chg hc (by omega), k.y.chg hc (by omega), k.p.chg hc (by omega), k.f.chg hc (by omega), k.i.chg hc (by omega), k.r.chg hc (.inl (Nat.le_refl _)), k.q.chg hc (.inl (Nat.le_refl _)), k.nd⟩
theorem WalkAt.new (k : WalkAt w l A n c h A1 n1 c1 b D S Y Hd W B M) (hb : Below w.heap.size w w') : WalkAt w' l A n c h A1 n1 c1 b D S Y Hd W B M := k.chg (chg_of_new hb)
end
/-- The walk from place i has put into block M just what is seen there. -/
def Walked (l : List TNode) (h : List Int) (b : Int) (i M f k0 : Nat) (s : Int → Bool) (w : World) (e : Ending) (w' : World) : Prop :=
  ∃ (k1 : Nat) (s1 : Int → Bool), e = .returned (.tuple #[]) ∧ MapB w' M k1 s1 ∧ k1 ≤ k0 + bnd f ∧ (∀ id, s1 id = true ↔ (s id = true ∨ SeenId l h b i id)) ∧ Chg M (M + 1) w w'
theorem put_seen {s s1 : Int → Bool} {x : Int} {P : Int → Prop} (h : ∀ id, s1 id = true ↔ ((if id = x then true else s id) = true ∨ P id)) (id : Int) : s1 id = true ↔ (s id = true ∨ (id = x ∨ P id)) := by
  rw [h]
  by_cases e : id = x
  · simp [e]
  · simp [e]
set_option maxHeartbeats 8000000 in
theorem walk_any (l : List TNode) (A : Option Addr) (n c : Nat) (h : List Int) (A1 : Option Addr) (n1 c1 : Nat) (b : Int) (D S Y Hd W B M : Nat) (hd : Hid (mIsDoc l = true)) (hok : Hid (cNodeOk l)) (hn16 : n ≤ 16) (hn1 : n1 ≤ 1048576) :
    ∀ (f i : Nat) (x : TNode) (k0 : Nat) (s : Int → Bool) (w : World), 16 - i ≤ f → l[i]? = some x → WalkAt w l A n c h A1 n1 c1 b D S Y Hd W B M → MapB w M k0 s → k0 + bnd f ≤ maxLen →
    Calls Try.prog 63 #[.int .i64 x.f0, .pointer (some ⟨D, 0, none⟩), .pointer (some ⟨S, 0, none⟩), .pointer (some ⟨Y, 0, none⟩), .pointer (some ⟨Hd, 0, none⟩), .pointer (some ⟨W, 0, none⟩)] w (Walked l h b i M f k0 s w) := by
  intro f
  induction f with
  | zero =>
    intro i x k0 s w hf hx hW hM hk
    have h1 := (List.getElem?_eq_some_iff.1 hx).1
    have h2 := rd_len TNode.len hW.r (by decide)
    omega
  | succ f ih =>
    intro i x k0 s w hf hx hW hM hk
    have HIH := Lib.hid ih
    have HL := Lib.hid (rd_len TNode.len hW.r (by decide))
    have hin : i < n := by have := (List.getElem?_eq_some_iff.1 hx).1; have := HL.out; omega
    have HX := Lib.hid hx
    have HW0 := Lib.hid hW
    have HM0 := Lib.hid hM
    have HK := Lib.hid (show k0 + (1 + 16 * bnd f) ≤ maxLen from hk)
    have hk0 : k0 < maxLen := by have := HK.out; omega
    have HF := Lib.hid hf
    have WX := Lib.hid (node_wf hok.out hx).1
    have gi : (idx l x.f0).getD 0 = (i : Int) := by rw [doc_self hd.out hx]; rfl
    have HKL := Lib.hid (show (mChildren l x.f0).length ≤ 16 by have := mChildren_len l x.f0; have := HL.out; omega)
    obtain ⟨bb, off, x', rfl, _, hbM, hz, hc⟩ := rd_elem TNode.len hW.r HL.out hin
    obtain rfl : x = x' := Option.some.inj (hx.symm.trans hz)
    have e0 : w.cell? ⟨bb, off + i * 5, none⟩ = _ := hc 0 _ rfl
    have e1 := hc 1 _ rfl
    have e2 := hc 2 _ rfl
    have e3 := hc 3 _ rfl
    have e4 := hc 4 _ rfl
    have kd := hW.d.at_ (j := 0) (u := .slice (some ⟨bb, off, none⟩) n c) rfl
    have ks0 := hW.s.at_ (j := 0) (u := .slice (some ⟨bb, off, none⟩) n c) rfl
    have ks1 := hW.s.at_ (j := 1) (u := .map (some B)) rfl
    have ks2 := hW.s.at_ (j := 2) (u := .map (some M)) rfl
    have ky := hW.y.at_ (j := 0) (u := .int .i64 b) rfl
    have kh := hW.p.at_ (j := 0) (u := .slice A1 n1 c1) rfl
    have hYl := hW.y.lt
    have hHl := hW.p.lt
    have hSl := hW.s.lt
    have hDl := hW.d.lt
    have hWl := hW.f.lt
    have hMl := hM.lt
    have HMI := Lib.hid hW.i
    clear ih hx hW hM hk hf hz hc
    by_cases e : x.f4 = b
    · have g : (x.f4 != b) = false := by simpa using e
      have hbk : blk h b x = false := by unfold blk; rw [g, Bool.and_false]
      clear e
      have HBK := Lib.hid hbk
      clear hbk
      go_enter Try.func63, Try.ntmps63
      go_wp2_with (first
        | (at_lookup; refine wp_look rfl _ _ _ rfl Try.underlying57 B n _ rfl HMI.out x.f0 rfl WX.out ?_)
        | (at_mapUpdate; refine wp_mapb_put rfl _ _ _ _ rfl Try.underlying60 M k0 s rfl (HM0.out.alloc_ _) hk0 x.f0 true rfl rfl WX.out ?_; intro w2 hm2 hg2; have HM2 := Lib.hid hm2; have HC2 := Lib.hid (((Chg.refl M (M + 1) w).alloc (.cells #[.int .i64 x.f0, .int .i64 x.f1, .int .i64 x.f2, .int .i64 x.f3, .int .i64 x.f4] 54)).trans (chg_of_grown hg2)); have HW2 := Lib.hid (HW0.out.chg HC2.out); have kd2 := HW2.out.d.at_ (j := 0) (u := .slice (some ⟨bb, off, none⟩) n c) rfl; clear hm2 hg2)
        | (go_at_call 65; refine (impl_ChildrenOf l (some ⟨bb, off, none⟩) n c 0 M x.f0 _ (by omega) HW2.out.r hok WX.out).mono ?_; rintro e3 w3 ⟨A3, c3, rfl, hF3, hb3⟩))
      have HM3 := Lib.hid (HM2.out.new hb3)
      have HC3 := Lib.hid (HC2.out.trans (chg_of_new hb3))
      have HW3 := Lib.hid (HW2.out.new hb3)
      have hlo : M + 1 ≤ w2.heap.size := by have := HM2.out.lt; omega
      have HCh := Lib.hid hF3.rd
      have HKN := Lib.hid (show (mChildren l x.f0).length = (mChildren l x.f0).length from rfl)
      generalize hnc : (mChildren l x.f0).length = nc at HCh HKL HKN hF3
      have HNC := Lib.hid hnc
      have hnc16 : nc ≤ 16 := HKL.out
      clear hb3 hF3 kd2 hnc kd ks0 ks1 ks2 ky kh e0 e1 e2 e3 e4
      go_wp2_with fail
      go_loopw [35] (fun v wr => ∃ (t k1 : Nat) (s1 : Int → Bool), v = .int .i64 t ∧ t ≤ nc ∧ Hid (MapB wr M k1 s1) ∧ Hid (k1 ≤ k0 + 1 + t * bnd f) ∧ Hid (∀ id, s1 id = true ↔ ((if id = x.f0 then true else s id) = true ∨ SeenKids l h b ((mChildren l x.f0).take t) id)) ∧ Hid (Chg M (M + 1) w3 wr)) (fun v _ => nc - (intOf v).toNat)
      case atStart => exact ⟨0, k0 + 1, _, rfl, Nat.zero_le _, HM3, Lib.hid (by omega), Lib.hid (fun id => ⟨.inl, fun h => h.elim (fun h => h) (fun h => absurd h (kids_nil id))⟩), Lib.hid (Chg.refl _ _ _)⟩
      case round =>
        obtain ⟨t, k1, s1, rfl, ht, HMr, HKr, HSr, HCr⟩ := hrel
        have HWr := Lib.hid (HW3.out.chg HCr.out)
        have kf := HWr.out.f.at_ (j := 0) (u := .func (.func 63) #[] #[.pointer (some ⟨D, 0, none⟩), .pointer (some ⟨S, 0, none⟩), .pointer (some ⟨Y, 0, none⟩), .pointer (some ⟨Hd, 0, none⟩), .pointer (some ⟨W, 0, none⟩)]) rfl
        by_cases hlt : t < nc
        · obtain ⟨bc, offc, z, rfl, _, _, hz, hcz⟩ := rd_int (HCh.out.chg HCr.out (.inr (.inl hlo))) hlt
          obtain ⟨ci, hci, hic, hcl⟩ := kid_at hd.out HX.out (List.mem_of_getElem? hz)
          obtain ⟨ci', y, hcc, _, hy, hyz⟩ := idx_lt hci
          obtain rfl := Int.ofNat.inj hcc
          subst hyz
          have HY := Lib.hid hy
          have HCI := Lib.hid hci
          have HZ := Lib.hid hz
          have hfi : 16 - ci ≤ f := by have := HF.out; omega
          have HKB := Lib.hid (show k1 + bnd f ≤ maxLen by
            have h1 := HKr.out; have h2 := HK.out; have h3 := HKL.out
            have h4 : (t + 1) * bnd f ≤ 16 * bnd f := Nat.mul_le_mul_right _ (by omega)
            rw [Nat.succ_mul] at h4
            omega)
          clear hz hy hci hic hcl hcc
          go_wp2_with (go_at_call 63; refine (HIH.out ci y k1 s1 _ hfi HY.out HWr.out HMr.out HKB.out).mono ?_; rintro e4 w4 ⟨k2, s2, rfl, hm4, hk4, hs4, hc4⟩)
          go_roundw
          case rel =>
            refine ⟨t + 1, k2, s2, by go_num, by omega, Lib.hid hm4, Lib.hid ?_, Lib.hid ?_, Lib.hid (HCr.out.trans hc4)⟩
            · have h1 := HKr.out; rw [Nat.succ_mul]; omega
            · intro id; rw [hs4, HSr.out id, kids_snoc HZ.out HCI.out id]; exact or_assoc
          case measure => simp [intOf]; omega
        · obtain rfl : t = nc := by omega
          go_wp2_with fail
          first | go_ret | (refine bodyPost_end (v := .tuple #[]) (by simp [results, Try.results63, go_sem]) rfl ?_)
          refine ⟨k1, s1, rfl, HMr.out, ?_, ?_, HC3.out.trans HCr.out⟩
          · have h1 := HKr.out; have h3 := HKL.out
            have h4 : t * bnd f ≤ 16 * bnd f := Nat.mul_le_mul_right _ h3
            show k1 ≤ k0 + (1 + 16 * bnd f)
            omega
          · intro id
            rw [seen_kids hd.out HX.out HBK.out id]
            refine put_seen (P := fun id => SeenKids l h b (mChildren l x.f0) id) ?_ id
            intro id
            have h1 := HSr.out id
            rwa [List.take_of_length_le (by rw [HNC.out]; exact Nat.le_refl _)] at h1
    · have g : (x.f4 != b) = true := by simpa using e
      clear e
      cases hh : h.contains x.f2 with
      | true =>
        have hbk : blk h b x = true := by unfold blk; rw [hh, g]; rfl
        have HBK := Lib.hid hbk
        have HH := Lib.hid hh
        clear hbk hh
        go_enter Try.func63, Try.ntmps63
        go_wp2_with (first | (at_lookup; refine wp_look rfl _ _ _ rfl Try.underlying57 B n _ rfl HMI.out x.f0 rfl WX.out ?_) | (go_at_call 64; refine (contains_Int x.f2 h A1 n1 c1 0 M _ (by omega) (HW0.out.q.alloc _)).mono ?_; rintro e9 w1 ⟨rfl, hb1⟩; rw [any_contains, HH.out]; have HC1 := Lib.hid (((Chg.refl M (M + 1) w).alloc (.cells #[.int .i64 x.f0, .int .i64 x.f1, .int .i64 x.f2, .int .i64 x.f3, .int .i64 x.f4] 54)).trans (chg_of_new hb1)); have HM1 := Lib.hid ((HM0.out.alloc_ (.cells #[.int .i64 x.f0, .int .i64 x.f1, .int .i64 x.f2, .int .i64 x.f3, .int .i64 x.f4] 54)).new hb1); have HW1 := Lib.hid (HW0.out.chg HC1.out); have kz2 := HW1.out.s.at_ (j := 2) (u := .map (some M)) rfl; clear hb1))
        go_wp2_with fail
        first | go_ret | (refine bodyPost_end (v := .tuple #[]) (by simp [results, Try.results63, go_sem]) rfl ?_)
        exact ⟨k0, s, rfl, HM1.out, Nat.le_add_right _ _, fun id => ⟨.inl, fun h => h.elim (fun h => h) (fun h => absurd h (seen_hid HX.out HBK.out id))⟩, HC1.out⟩
      | false =>
        have hbk : blk h b x = false := by unfold blk; rw [hh, Bool.false_and]
        have HH := Lib.hid hh
        clear hh
        have HBK := Lib.hid hbk
        clear hbk
        go_enter Try.func63, Try.ntmps63
        go_wp2_with (first | (at_lookup; refine wp_look rfl _ _ _ rfl Try.underlying57 B n _ rfl HMI.out x.f0 rfl WX.out ?_) | (go_at_call 64; refine (contains_Int x.f2 h A1 n1 c1 0 M _ (by omega) (HW0.out.q.alloc _)).mono ?_; rintro e9 w1 ⟨rfl, hb1⟩; rw [any_contains, HH.out]; have HC1 := Lib.hid (((Chg.refl M (M + 1) w).alloc (.cells #[.int .i64 x.f0, .int .i64 x.f1, .int .i64 x.f2, .int .i64 x.f3, .int .i64 x.f4] 54)).trans (chg_of_new hb1)); have HM1 := Lib.hid ((HM0.out.alloc_ (.cells #[.int .i64 x.f0, .int .i64 x.f1, .int .i64 x.f2, .int .i64 x.f3, .int .i64 x.f4] 54)).new hb1); have HW1 := Lib.hid (HW0.out.chg HC1.out); have kz2 := HW1.out.s.at_ (j := 2) (u := .map (some M)) rfl; clear hb1) | (at_mapUpdate; refine wp_mapb_put rfl _ _ _ _ rfl Try.underlying60 M k0 s rfl HM1.out hk0 x.f0 true rfl rfl WX.out ?_; intro w2 hm2 hg2; have HM2 := Lib.hid hm2; have HC2 := Lib.hid (HC1.out.trans (chg_of_grown hg2)); have HW2 := Lib.hid (HW0.out.chg HC2.out); have kd2 := HW2.out.d.at_ (j := 0) (u := .slice (some ⟨bb, off, none⟩) n c) rfl; clear hm2 hg2) | (go_at_call 65; refine (impl_ChildrenOf l (some ⟨bb, off, none⟩) n c 0 M x.f0 _ (by omega) HW2.out.r hok WX.out).mono ?_; rintro e3 w3 ⟨A3, c3, rfl, hF3, hb3⟩))
        have HM3 := Lib.hid (HM2.out.new hb3)
        have HC3 := Lib.hid (HC2.out.trans (chg_of_new hb3))
        have HW3 := Lib.hid (HW2.out.new hb3)
        have hlo : M + 1 ≤ w2.heap.size := by have := HM2.out.lt; omega
        have HCh := Lib.hid hF3.rd
        have HKN := Lib.hid (show (mChildren l x.f0).length = (mChildren l x.f0).length from rfl)
        generalize hnc : (mChildren l x.f0).length = nc at HCh HKL HKN hF3
        have HNC := Lib.hid hnc
        have hnc16 : nc ≤ 16 := HKL.out
        clear hb3 hF3 kd2 hnc kd ks0 ks1 ks2 ky kh e0 e1 e2 e3 e4
        go_wp2_with fail
        go_loopw [35] (fun v wr => ∃ (t k1 : Nat) (s1 : Int → Bool), v = .int .i64 t ∧ t ≤ nc ∧ Hid (MapB wr M k1 s1) ∧ Hid (k1 ≤ k0 + 1 + t * bnd f) ∧ Hid (∀ id, s1 id = true ↔ ((if id = x.f0 then true else s id) = true ∨ SeenKids l h b ((mChildren l x.f0).take t) id)) ∧ Hid (Chg M (M + 1) w3 wr)) (fun v _ => nc - (intOf v).toNat)
        case atStart => exact ⟨0, k0 + 1, _, rfl, Nat.zero_le _, HM3, Lib.hid (by omega), Lib.hid (fun id => ⟨.inl, fun h => h.elim (fun h => h) (fun h => absurd h (kids_nil id))⟩), Lib.hid (Chg.refl _ _ _)⟩
        case round =>
          obtain ⟨t, k1, s1, rfl, ht, HMr, HKr, HSr, HCr⟩ := hrel
          have HWr := Lib.hid (HW3.out.chg HCr.out)
          have kf := HWr.out.f.at_ (j := 0) (u := .func (.func 63) #[] #[.pointer (some ⟨D, 0, none⟩), .pointer (some ⟨S, 0, none⟩), .pointer (some ⟨Y, 0, none⟩), .pointer (some ⟨Hd, 0, none⟩), .pointer (some ⟨W, 0, none⟩)]) rfl
          by_cases hlt : t < nc
          · obtain ⟨bc, offc, z, rfl, _, _, hz, hcz⟩ := rd_int (HCh.out.chg HCr.out (.inr (.inl hlo))) hlt
            obtain ⟨ci, hci, hic, hcl⟩ := kid_at hd.out HX.out (List.mem_of_getElem? hz)
            obtain ⟨ci', y, hcc, _, hy, hyz⟩ := idx_lt hci
            obtain rfl := Int.ofNat.inj hcc
            subst hyz
            have HY := Lib.hid hy
            have HCI := Lib.hid hci
            have HZ := Lib.hid hz
            have hfi : 16 - ci ≤ f := by have := HF.out; omega
            have HKB := Lib.hid (show k1 + bnd f ≤ maxLen by
              have h1 := HKr.out; have h2 := HK.out; have h3 := HKL.out
              have h4 : (t + 1) * bnd f ≤ 16 * bnd f := Nat.mul_le_mul_right _ (by omega)
              rw [Nat.succ_mul] at h4
              omega)
            clear hz hy hci hic hcl hcc
            go_wp2_with (go_at_call 63; refine (HIH.out ci y k1 s1 _ hfi HY.out HWr.out HMr.out HKB.out).mono ?_; rintro e4 w4 ⟨k2, s2, rfl, hm4, hk4, hs4, hc4⟩)
            go_roundw
            case rel =>
              refine ⟨t + 1, k2, s2, by go_num, by omega, Lib.hid hm4, Lib.hid ?_, Lib.hid ?_, Lib.hid (HCr.out.trans hc4)⟩
              · have h1 := HKr.out; rw [Nat.succ_mul]; omega
              · intro id; rw [hs4, HSr.out id, kids_snoc HZ.out HCI.out id]; exact or_assoc
            case measure => simp [intOf]; omega
          · obtain rfl : t = nc := by omega
            go_wp2_with fail
            first | go_ret | (refine bodyPost_end (v := .tuple #[]) (by simp [results, Try.results63, go_sem]) rfl ?_)
            refine ⟨k1, s1, rfl, HMr.out, ?_, ?_, HC3.out.trans HCr.out⟩
            · have h1 := HKr.out; have h3 := HKL.out
              have h4 : t * bnd f ≤ 16 * bnd f := Nat.mul_le_mul_right _ h3
              show k1 ≤ k0 + (1 + 16 * bnd f)
              omega
            · intro id
              rw [seen_kids hd.out HX.out HBK.out id]
              refine put_seen (P := fun id => SeenKids l h b (mChildren l x.f0) id) ?_ id
              intro id
              have h1 := HSr.out id
              rwa [List.take_of_length_le (by rw [HNC.out]; exact Nat.le_refl _)] at h1
end Go.Proofs.Ytomoigbhikihfaa
