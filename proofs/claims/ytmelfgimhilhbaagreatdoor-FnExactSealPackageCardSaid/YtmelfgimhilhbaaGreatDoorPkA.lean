/- The integers of the parts of a package, and how the program counts them. No condition but the length. -/
import Derived.Test.YtmelfgimhilhbaaGreatDoorIsPackI
import Derived.Test.YtmelfgimhilhbaaGreatDoorB2I
import Derived.Test.YtmelfgimhilhbaaGreatDoorFun
import Derived.Deep.LoopGhost
namespace Go.Proofs.YtmelfgimhilhbaaGreatDoor
open Go Go.ChangeShapes Go.WideShapes Go.ChangeAt Go.RowKit Go.Lib
set_option linter.unusedVariables false
set_option linter.unusedSimpArgs false
set_option maxRecDepth 100000
def cnt {α : Type} (f : α → List Int) (l : List α) : List Int := (l.length : Int) :: l.flatMap f
theorem flat_one_more {α : Type} {f : α → List Int} {l : List α} {k : Nat} {x : α} (h : l[k]? = some x) : (l.take (k + 1)).flatMap f = (l.take k).flatMap f ++ f x := by
  rw [List.take_add_one, h, List.flatMap_append]; simp
theorem i64s_app (a b : List Int) : i64s (a ++ b) = i64s a ++ i64s b := by simp [i64s]
def iG (x : TGrant) : List Int := [x.f1, x.f2, x.f3, x.f4, x.f5, (if x.f6 = true then 1 else 0)]
theorem iG_len (x : TGrant) : (iG x).length = 6 := rfl
theorem flatG_len (l : List TGrant) : (l.flatMap iG).length = l.length * 6 := by
  induction l with
  | nil => rfl
  | cons x l ih => rw [List.flatMap_cons, List.length_append, ih, iG_len, List.length_cons]; omega
set_option maxHeartbeats 4000000 in
theorem ints_Grant (x : TGrant) (w : World) : Calls Tryz.prog 136 #[.agg #[.int .i64 x.f0, .int .i64 x.f1, .int .i64 x.f2, .int .i64 x.f3, .int .i64 x.f4, .int .i64 x.f5, .bool x.f6]] w (Makes 3 1 6 (i64s (iG x)) w) := by
  obtain ⟨f0, f1, f2, f3, f4, f5, f6⟩ := x
  cases f6
  · skip
    have HO : Hid (((w.alloc (.cells #[.int .i64 f0, .int .i64 f1, .int .i64 f2, .int .i64 f3, .int .i64 f4, .int .i64 f5, .bool false] 89)).alloc (.cells #[.int .i64 f1, .int .i64 f2, .int .i64 f3, .int .i64 f4, .int .i64 f5, .int .i64 0] 3)).ownsRow w.heap.size 3 1 (.slice (some ⟨w.heap.size + 1, 0, none⟩) 6 6) 6 (#[.int .i64 f1, .int .i64 f2, .int .i64 f3, .int .i64 f4, .int .i64 f5, .int .i64 0] : Array Value).toList) := Lib.hid (by simpa using World.ownsRow_lit (base := w.heap.size) (e := 3) (size := 1) (w.alloc (.cells #[.int .i64 f0, .int .i64 f1, .int .i64 f2, .int .i64 f3, .int .i64 f4, .int .i64 f5, .bool false] 89)) #[.int .i64 f1, .int .i64 f2, .int .i64 f3, .int .i64 f4, .int .i64 f5, .int .i64 0] 6 (by simp) (by unfold maxLen; omega) rfl)
    go_enter Tryz.func136, Tryz.ntmps136
    go_wp2_with fail
    go_ret
    exact makes_of_own HO.out (((Below.refl _ _).alloc (Nat.le_refl _) _).alloc (by simp) _)
  · skip
    have HO : Hid (((w.alloc (.cells #[.int .i64 f0, .int .i64 f1, .int .i64 f2, .int .i64 f3, .int .i64 f4, .int .i64 f5, .bool true] 89)).alloc (.cells #[.int .i64 f1, .int .i64 f2, .int .i64 f3, .int .i64 f4, .int .i64 f5, .int .i64 1] 3)).ownsRow w.heap.size 3 1 (.slice (some ⟨w.heap.size + 1, 0, none⟩) 6 6) 6 (#[.int .i64 f1, .int .i64 f2, .int .i64 f3, .int .i64 f4, .int .i64 f5, .int .i64 1] : Array Value).toList) := Lib.hid (by simpa using World.ownsRow_lit (base := w.heap.size) (e := 3) (size := 1) (w.alloc (.cells #[.int .i64 f0, .int .i64 f1, .int .i64 f2, .int .i64 f3, .int .i64 f4, .int .i64 f5, .bool true] 89)) #[.int .i64 f1, .int .i64 f2, .int .i64 f3, .int .i64 f4, .int .i64 f5, .int .i64 1] 6 (by simp) (by unfold maxLen; omega) rfl)
    go_enter Tryz.func136, Tryz.ntmps136
    go_wp2_with fail
    go_ret
    exact makes_of_own HO.out (((Below.refl _ _).alloc (Nat.le_refl _) _).alloc (by simp) _)
set_option maxHeartbeats 8000000 in
theorem counted_Grant (l : List TGrant) (A : Option Addr) (n c lo hi : Nat) (w : World) (hn : n ≤ 1048576) (hr : Rd w lo hi 7 A n (cGrant l)) :
    Calls Tryz.prog 135 #[.slice A n c, .func (.func 136) #[] #[]] w (Makes 3 1 (cnt iG l).length (i64s (cnt iG l)) w) := by
  have HL := Lib.hid (rd_len TGrant.len hr (by decide))
  have HR := Lib.hid hr
  have HO0 := Lib.hid (show (w.alloc (.cells #[.int .i64 n] 3)).ownsRow w.heap.size 3 1 (.slice (some ⟨w.heap.size, 0, none⟩) 1 1) 1 (i64s [(n : Int)]) from World.ownsRow_lit w #[.int .i64 n] 1 (Nat.le_refl _) (by unfold maxLen; omega) rfl)
  clear hr
  go_enter Tryz.func135, Tryz.ntmps135
  go_wp2_with fail
  go_loopg [5, 13] n (fun gg v i wr => ∃ (k nn : Nat) (X : List Int), k ≤ n ∧ n - k ≤ gg ∧ i = .int .i64 k ∧ nn ≤ 1 + k * 6 ∧ Hid ((n : Int) :: (l.take k).flatMap iG = X ∧ nn = X.length) ∧ Hid (wr.ownsRow w.heap.size 3 1 v nn (i64s X)) ∧ Hid (Below w.heap.size w wr))
  case atStart => exact ⟨0, 1, [(n : Int)], Nat.zero_le _, by omega, rfl, by omega, Lib.hid ⟨rfl, rfl⟩, HO0, Lib.hid ((Below.refl _ _).alloc (Nat.le_refl _) _)⟩
  case round =>
    clear HO0
    obtain ⟨k, nn, X, hk, hg, rfl, hnn, HX, HO, HB⟩ := hrel
    by_cases hlt : k < n
    · obtain ⟨b, off, x, rfl, _, _, hz, hc⟩ := rd_elem TGrant.len (HR.out.new HB.out) HL.out hlt
      have c0 : wr.cell? ⟨b, off + k * 7, none⟩ = _ := hc 0 _ rfl
      have c1 := hc 1 _ rfl
      have c2 := hc 2 _ rfl
      have c3 := hc 3 _ rfl
      have c4 := hc 4 _ rfl
      have c5 := hc 5 _ rfl
      have c6 := hc 6 _ rfl
      have HS := Lib.hid HB.out.size
      have HB1 := Lib.hid (HB.out.alloc HS.out (.cells #[.int .i64 x.f0, .int .i64 x.f1, .int .i64 x.f2, .int .i64 x.f3, .int .i64 x.f4, .int .i64 x.f5, .bool x.f6] 89))
      have HO1 := Lib.hid (HO.out.alloc (.cells #[.int .i64 x.f0, .int .i64 x.f1, .int .i64 x.f2, .int .i64 x.f3, .int .i64 x.f4, .int .i64 x.f5, .bool x.f6] 89))
      have HX1 := Lib.hid (show (n : Int) :: (l.take (k + 1)).flatMap iG = X ++ iG x by rw [flat_one_more hz, ← HX.out.1]; rfl)
      have CI := Lib.hid (ints_Grant x (wr.alloc (.cells #[.int .i64 x.f0, .int .i64 x.f1, .int .i64 x.f2, .int .i64 x.f3, .int .i64 x.f4, .int .i64 x.f5, .bool x.f6] 89)))
      clear hz hc
      go_wp2_with fail
      refine CI.out.mono ?_
      rintro e w2 ⟨A2, c2, rfl, hF2, hb2⟩
      have HB2 := Lib.hid (below_trans HB1.out hb2 (Nat.le_refl _))
      have HO2 := Lib.hid (own_newer HO1.out hb2)
      have HF2 := Lib.hid hF2
      have HS2 := Lib.hid HB2.out.size
      clear hb2 hF2 CI
      go_wp2_with (at_builtin; refine wp_app rfl _ _ _ rfl w.heap.size 3 (.int .i64 0) 1 8 Tryz.underlying72 info_int rfl (by decide) _ _ _ rfl HO2.out _ _ A2 6 c2 (i64s (iG x)) rfl (HF2.out.rd) (ints_oneCell _ _) (by unfold maxLen; omega) (by omega) HS2.out ?_; intro v3 w3 ho3 hb3 _ _)
      have HO3 := Lib.hid (show w3.ownsRow w.heap.size 3 1 v3 (nn + 6) (i64s (X ++ iG x)) by rw [i64s_app]; exact ho3)
      have HB3 := Lib.hid (HB2.out.trans hb3)
      clear ho3 hb3
      go_wp2_with fail
      go_roundg (n - (k + 1))
      case measure => omega
      case rel => exact ⟨k + 1, nn + 6, X ++ iG x, by omega, by omega, by go_num, by omega, Lib.hid ⟨HX1.out, by rw [List.length_append, iG_len, HX.out.2]⟩, HO3, HB3⟩
    · obtain rfl : k = n := by omega
      have HE := Lib.hid (show cnt iG l = X by rw [← HX.out.1, List.take_of_length_le (by rw [HL.out]; omega)]; unfold cnt; rw [HL.out])
      go_wp2_with fail
      go_ret
      rw [HE.out, ← HX.out.2]
      exact makes_of_own HO.out HB.out
def iF (x : TFlow) : List Int := [x.f1, x.f2]
theorem iF_len (x : TFlow) : (iF x).length = 2 := rfl
theorem flatF_len (l : List TFlow) : (l.flatMap iF).length = l.length * 2 := by
  induction l with
  | nil => rfl
  | cons x l ih => rw [List.flatMap_cons, List.length_append, ih, iF_len, List.length_cons]; omega
set_option maxHeartbeats 4000000 in
theorem ints_Flow (x : TFlow) (w : World) : Calls Tryz.prog 138 #[.agg #[.int .i64 x.f0, .int .i64 x.f1, .int .i64 x.f2]] w (Makes 3 1 2 (i64s (iF x)) w) := by
  have HO : Hid (((w.alloc (.cells #[.int .i64 x.f0, .int .i64 x.f1, .int .i64 x.f2] 92)).alloc (.cells #[.int .i64 x.f1, .int .i64 x.f2] 3)).ownsRow w.heap.size 3 1 (.slice (some ⟨w.heap.size + 1, 0, none⟩) 2 2) 2 (#[.int .i64 x.f1, .int .i64 x.f2] : Array Value).toList) := Lib.hid (by simpa using World.ownsRow_lit (base := w.heap.size) (e := 3) (size := 1) (w.alloc (.cells #[.int .i64 x.f0, .int .i64 x.f1, .int .i64 x.f2] 92)) #[.int .i64 x.f1, .int .i64 x.f2] 2 (by simp) (by unfold maxLen; omega) rfl)
  go_enter Tryz.func138, Tryz.ntmps138
  go_wp2_with fail
  go_ret
  exact makes_of_own HO.out (((Below.refl _ _).alloc (Nat.le_refl _) _).alloc (by simp) _)
set_option maxHeartbeats 8000000 in
theorem counted_Flow (l : List TFlow) (A : Option Addr) (n c lo hi : Nat) (w : World) (hn : n ≤ 1048576) (hr : Rd w lo hi 3 A n (cFlow l)) :
    Calls Tryz.prog 137 #[.slice A n c, .func (.func 138) #[] #[]] w (Makes 3 1 (cnt iF l).length (i64s (cnt iF l)) w) := by
  have HL := Lib.hid (rd_len TFlow.len hr (by decide))
  have HR := Lib.hid hr
  have HO0 := Lib.hid (show (w.alloc (.cells #[.int .i64 n] 3)).ownsRow w.heap.size 3 1 (.slice (some ⟨w.heap.size, 0, none⟩) 1 1) 1 (i64s [(n : Int)]) from World.ownsRow_lit w #[.int .i64 n] 1 (Nat.le_refl _) (by unfold maxLen; omega) rfl)
  clear hr
  go_enter Tryz.func137, Tryz.ntmps137
  go_wp2_with fail
  go_loopg [5, 13] n (fun gg v i wr => ∃ (k nn : Nat) (X : List Int), k ≤ n ∧ n - k ≤ gg ∧ i = .int .i64 k ∧ nn ≤ 1 + k * 2 ∧ Hid ((n : Int) :: (l.take k).flatMap iF = X ∧ nn = X.length) ∧ Hid (wr.ownsRow w.heap.size 3 1 v nn (i64s X)) ∧ Hid (Below w.heap.size w wr))
  case atStart => exact ⟨0, 1, [(n : Int)], Nat.zero_le _, by omega, rfl, by omega, Lib.hid ⟨rfl, rfl⟩, HO0, Lib.hid ((Below.refl _ _).alloc (Nat.le_refl _) _)⟩
  case round =>
    clear HO0
    obtain ⟨k, nn, X, hk, hg, rfl, hnn, HX, HO, HB⟩ := hrel
    by_cases hlt : k < n
    · obtain ⟨b, off, x, rfl, _, _, hz, hc⟩ := rd_elem TFlow.len (HR.out.new HB.out) HL.out hlt
      have c0 : wr.cell? ⟨b, off + k * 3, none⟩ = _ := hc 0 _ rfl
      have c1 := hc 1 _ rfl
      have c2 := hc 2 _ rfl
      have HS := Lib.hid HB.out.size
      have HB1 := Lib.hid (HB.out.alloc HS.out (.cells #[.int .i64 x.f0, .int .i64 x.f1, .int .i64 x.f2] 92))
      have HO1 := Lib.hid (HO.out.alloc (.cells #[.int .i64 x.f0, .int .i64 x.f1, .int .i64 x.f2] 92))
      have HX1 := Lib.hid (show (n : Int) :: (l.take (k + 1)).flatMap iF = X ++ iF x by rw [flat_one_more hz, ← HX.out.1]; rfl)
      have CI := Lib.hid (ints_Flow x (wr.alloc (.cells #[.int .i64 x.f0, .int .i64 x.f1, .int .i64 x.f2] 92)))
      clear hz hc
      go_wp2_with fail
      refine CI.out.mono ?_
      rintro e w2 ⟨A2, c2, rfl, hF2, hb2⟩
      have HB2 := Lib.hid (below_trans HB1.out hb2 (Nat.le_refl _))
      have HO2 := Lib.hid (own_newer HO1.out hb2)
      have HF2 := Lib.hid hF2
      have HS2 := Lib.hid HB2.out.size
      clear hb2 hF2 CI
      go_wp2_with (at_builtin; refine wp_app rfl _ _ _ rfl w.heap.size 3 (.int .i64 0) 1 8 Tryz.underlying72 info_int rfl (by decide) _ _ _ rfl HO2.out _ _ A2 2 c2 (i64s (iF x)) rfl (HF2.out.rd) (ints_oneCell _ _) (by unfold maxLen; omega) (by omega) HS2.out ?_; intro v3 w3 ho3 hb3 _ _)
      have HO3 := Lib.hid (show w3.ownsRow w.heap.size 3 1 v3 (nn + 2) (i64s (X ++ iF x)) by rw [i64s_app]; exact ho3)
      have HB3 := Lib.hid (HB2.out.trans hb3)
      clear ho3 hb3
      go_wp2_with fail
      go_roundg (n - (k + 1))
      case measure => omega
      case rel => exact ⟨k + 1, nn + 2, X ++ iF x, by omega, by omega, by go_num, by omega, Lib.hid ⟨HX1.out, by rw [List.length_append, iF_len, HX.out.2]⟩, HO3, HB3⟩
    · obtain rfl : k = n := by omega
      have HE := Lib.hid (show cnt iF l = X by rw [← HX.out.1, List.take_of_length_le (by rw [HL.out]; omega)]; unfold cnt; rw [HL.out])
      go_wp2_with fail
      go_ret
      rw [HE.out, ← HX.out.2]
      exact makes_of_own HO.out HB.out
def iR (x : TRule) : List Int := [x.f1, x.f2, x.f3, x.f4, x.f5, x.f6, x.f7]
theorem iR_len (x : TRule) : (iR x).length = 7 := rfl
theorem flatR_len (l : List TRule) : (l.flatMap iR).length = l.length * 7 := by
  induction l with
  | nil => rfl
  | cons x l ih => rw [List.flatMap_cons, List.length_append, ih, iR_len, List.length_cons]; omega
set_option maxHeartbeats 4000000 in
theorem ints_Rule (x : TRule) (w : World) : Calls Tryz.prog 140 #[.agg #[.int .i64 x.f0, .int .i64 x.f1, .int .i64 x.f2, .int .i64 x.f3, .int .i64 x.f4, .int .i64 x.f5, .int .i64 x.f6, .int .i64 x.f7]] w (Makes 3 1 7 (i64s (iR x)) w) := by
  have HO : Hid (((w.alloc (.cells #[.int .i64 x.f0, .int .i64 x.f1, .int .i64 x.f2, .int .i64 x.f3, .int .i64 x.f4, .int .i64 x.f5, .int .i64 x.f6, .int .i64 x.f7] 96)).alloc (.cells #[.int .i64 x.f1, .int .i64 x.f2, .int .i64 x.f3, .int .i64 x.f4, .int .i64 x.f5, .int .i64 x.f6, .int .i64 x.f7] 3)).ownsRow w.heap.size 3 1 (.slice (some ⟨w.heap.size + 1, 0, none⟩) 7 7) 7 (#[.int .i64 x.f1, .int .i64 x.f2, .int .i64 x.f3, .int .i64 x.f4, .int .i64 x.f5, .int .i64 x.f6, .int .i64 x.f7] : Array Value).toList) := Lib.hid (by simpa using World.ownsRow_lit (base := w.heap.size) (e := 3) (size := 1) (w.alloc (.cells #[.int .i64 x.f0, .int .i64 x.f1, .int .i64 x.f2, .int .i64 x.f3, .int .i64 x.f4, .int .i64 x.f5, .int .i64 x.f6, .int .i64 x.f7] 96)) #[.int .i64 x.f1, .int .i64 x.f2, .int .i64 x.f3, .int .i64 x.f4, .int .i64 x.f5, .int .i64 x.f6, .int .i64 x.f7] 7 (by simp) (by unfold maxLen; omega) rfl)
  go_enter Tryz.func140, Tryz.ntmps140
  go_wp2_with fail
  go_ret
  exact makes_of_own HO.out (((Below.refl _ _).alloc (Nat.le_refl _) _).alloc (by simp) _)
set_option maxHeartbeats 8000000 in
theorem counted_Rule (l : List TRule) (A : Option Addr) (n c lo hi : Nat) (w : World) (hn : n ≤ 1048576) (hr : Rd w lo hi 8 A n (cRule l)) :
    Calls Tryz.prog 139 #[.slice A n c, .func (.func 140) #[] #[]] w (Makes 3 1 (cnt iR l).length (i64s (cnt iR l)) w) := by
  have HL := Lib.hid (rd_len TRule.len hr (by decide))
  have HR := Lib.hid hr
  have HO0 := Lib.hid (show (w.alloc (.cells #[.int .i64 n] 3)).ownsRow w.heap.size 3 1 (.slice (some ⟨w.heap.size, 0, none⟩) 1 1) 1 (i64s [(n : Int)]) from World.ownsRow_lit w #[.int .i64 n] 1 (Nat.le_refl _) (by unfold maxLen; omega) rfl)
  clear hr
  go_enter Tryz.func139, Tryz.ntmps139
  go_wp2_with fail
  go_loopg [5, 13] n (fun gg v i wr => ∃ (k nn : Nat) (X : List Int), k ≤ n ∧ n - k ≤ gg ∧ i = .int .i64 k ∧ nn ≤ 1 + k * 7 ∧ Hid ((n : Int) :: (l.take k).flatMap iR = X ∧ nn = X.length) ∧ Hid (wr.ownsRow w.heap.size 3 1 v nn (i64s X)) ∧ Hid (Below w.heap.size w wr))
  case atStart => exact ⟨0, 1, [(n : Int)], Nat.zero_le _, by omega, rfl, by omega, Lib.hid ⟨rfl, rfl⟩, HO0, Lib.hid ((Below.refl _ _).alloc (Nat.le_refl _) _)⟩
  case round =>
    clear HO0
    obtain ⟨k, nn, X, hk, hg, rfl, hnn, HX, HO, HB⟩ := hrel
    by_cases hlt : k < n
    · obtain ⟨b, off, x, rfl, _, _, hz, hc⟩ := rd_elem TRule.len (HR.out.new HB.out) HL.out hlt
      have c0 : wr.cell? ⟨b, off + k * 8, none⟩ = _ := hc 0 _ rfl
      have c1 := hc 1 _ rfl
      have c2 := hc 2 _ rfl
      have c3 := hc 3 _ rfl
      have c4 := hc 4 _ rfl
      have c5 := hc 5 _ rfl
      have c6 := hc 6 _ rfl
      have c7 := hc 7 _ rfl
      have HS := Lib.hid HB.out.size
      have HB1 := Lib.hid (HB.out.alloc HS.out (.cells #[.int .i64 x.f0, .int .i64 x.f1, .int .i64 x.f2, .int .i64 x.f3, .int .i64 x.f4, .int .i64 x.f5, .int .i64 x.f6, .int .i64 x.f7] 96))
      have HO1 := Lib.hid (HO.out.alloc (.cells #[.int .i64 x.f0, .int .i64 x.f1, .int .i64 x.f2, .int .i64 x.f3, .int .i64 x.f4, .int .i64 x.f5, .int .i64 x.f6, .int .i64 x.f7] 96))
      have HX1 := Lib.hid (show (n : Int) :: (l.take (k + 1)).flatMap iR = X ++ iR x by rw [flat_one_more hz, ← HX.out.1]; rfl)
      have CI := Lib.hid (ints_Rule x (wr.alloc (.cells #[.int .i64 x.f0, .int .i64 x.f1, .int .i64 x.f2, .int .i64 x.f3, .int .i64 x.f4, .int .i64 x.f5, .int .i64 x.f6, .int .i64 x.f7] 96)))
      clear hz hc
      go_wp2_with fail
      refine CI.out.mono ?_
      rintro e w2 ⟨A2, c2, rfl, hF2, hb2⟩
      have HB2 := Lib.hid (below_trans HB1.out hb2 (Nat.le_refl _))
      have HO2 := Lib.hid (own_newer HO1.out hb2)
      have HF2 := Lib.hid hF2
      have HS2 := Lib.hid HB2.out.size
      clear hb2 hF2 CI
      go_wp2_with (at_builtin; refine wp_app rfl _ _ _ rfl w.heap.size 3 (.int .i64 0) 1 8 Tryz.underlying72 info_int rfl (by decide) _ _ _ rfl HO2.out _ _ A2 7 c2 (i64s (iR x)) rfl (HF2.out.rd) (ints_oneCell _ _) (by unfold maxLen; omega) (by omega) HS2.out ?_; intro v3 w3 ho3 hb3 _ _)
      have HO3 := Lib.hid (show w3.ownsRow w.heap.size 3 1 v3 (nn + 7) (i64s (X ++ iR x)) by rw [i64s_app]; exact ho3)
      have HB3 := Lib.hid (HB2.out.trans hb3)
      clear ho3 hb3
      go_wp2_with fail
      go_roundg (n - (k + 1))
      case measure => omega
      case rel => exact ⟨k + 1, nn + 7, X ++ iR x, by omega, by omega, by go_num, by omega, Lib.hid ⟨HX1.out, by rw [List.length_append, iR_len, HX.out.2]⟩, HO3, HB3⟩
    · obtain rfl : k = n := by omega
      have HE := Lib.hid (show cnt iR l = X by rw [← HX.out.1, List.take_of_length_le (by rw [HL.out]; omega)]; unfold cnt; rw [HL.out])
      go_wp2_with fail
      go_ret
      rw [HE.out, ← HX.out.2]
      exact makes_of_own HO.out HB.out
def iO (x : TOp) : List Int := [x.f0, x.f1, x.f2, x.f3]
theorem iO_len (x : TOp) : (iO x).length = 4 := rfl
theorem flatO_len (l : List TOp) : (l.flatMap iO).length = l.length * 4 := by
  induction l with
  | nil => rfl
  | cons x l ih => rw [List.flatMap_cons, List.length_append, ih, iO_len, List.length_cons]; omega
set_option maxHeartbeats 4000000 in
theorem ints_Op (x : TOp) (w : World) : Calls Tryz.prog 142 #[.agg #[.int .i64 x.f0, .int .i64 x.f1, .int .i64 x.f2, .int .i64 x.f3]] w (Makes 3 1 4 (i64s (iO x)) w) := by
  have HO : Hid (((w.alloc (.cells #[.int .i64 x.f0, .int .i64 x.f1, .int .i64 x.f2, .int .i64 x.f3] 112)).alloc (.cells #[.int .i64 x.f0, .int .i64 x.f1, .int .i64 x.f2, .int .i64 x.f3] 3)).ownsRow w.heap.size 3 1 (.slice (some ⟨w.heap.size + 1, 0, none⟩) 4 4) 4 (#[.int .i64 x.f0, .int .i64 x.f1, .int .i64 x.f2, .int .i64 x.f3] : Array Value).toList) := Lib.hid (by simpa using World.ownsRow_lit (base := w.heap.size) (e := 3) (size := 1) (w.alloc (.cells #[.int .i64 x.f0, .int .i64 x.f1, .int .i64 x.f2, .int .i64 x.f3] 112)) #[.int .i64 x.f0, .int .i64 x.f1, .int .i64 x.f2, .int .i64 x.f3] 4 (by simp) (by unfold maxLen; omega) rfl)
  go_enter Tryz.func142, Tryz.ntmps142
  go_wp2_with fail
  go_ret
  exact makes_of_own HO.out (((Below.refl _ _).alloc (Nat.le_refl _) _).alloc (by simp) _)
set_option maxHeartbeats 8000000 in
theorem counted_Op (l : List TOp) (A : Option Addr) (n c lo hi : Nat) (w : World) (hn : n ≤ 1048576) (hr : Rd w lo hi 4 A n (cOp l)) :
    Calls Tryz.prog 141 #[.slice A n c, .func (.func 142) #[] #[]] w (Makes 3 1 (cnt iO l).length (i64s (cnt iO l)) w) := by
  have HL := Lib.hid (rd_len TOp.len hr (by decide))
  have HR := Lib.hid hr
  have HO0 := Lib.hid (show (w.alloc (.cells #[.int .i64 n] 3)).ownsRow w.heap.size 3 1 (.slice (some ⟨w.heap.size, 0, none⟩) 1 1) 1 (i64s [(n : Int)]) from World.ownsRow_lit w #[.int .i64 n] 1 (Nat.le_refl _) (by unfold maxLen; omega) rfl)
  clear hr
  go_enter Tryz.func141, Tryz.ntmps141
  go_wp2_with fail
  go_loopg [5, 13] n (fun gg v i wr => ∃ (k nn : Nat) (X : List Int), k ≤ n ∧ n - k ≤ gg ∧ i = .int .i64 k ∧ nn ≤ 1 + k * 4 ∧ Hid ((n : Int) :: (l.take k).flatMap iO = X ∧ nn = X.length) ∧ Hid (wr.ownsRow w.heap.size 3 1 v nn (i64s X)) ∧ Hid (Below w.heap.size w wr))
  case atStart => exact ⟨0, 1, [(n : Int)], Nat.zero_le _, by omega, rfl, by omega, Lib.hid ⟨rfl, rfl⟩, HO0, Lib.hid ((Below.refl _ _).alloc (Nat.le_refl _) _)⟩
  case round =>
    clear HO0
    obtain ⟨k, nn, X, hk, hg, rfl, hnn, HX, HO, HB⟩ := hrel
    by_cases hlt : k < n
    · obtain ⟨b, off, x, rfl, _, _, hz, hc⟩ := rd_elem TOp.len (HR.out.new HB.out) HL.out hlt
      have c0 : wr.cell? ⟨b, off + k * 4, none⟩ = _ := hc 0 _ rfl
      have c1 := hc 1 _ rfl
      have c2 := hc 2 _ rfl
      have c3 := hc 3 _ rfl
      have HS := Lib.hid HB.out.size
      have HB1 := Lib.hid (HB.out.alloc HS.out (.cells #[.int .i64 x.f0, .int .i64 x.f1, .int .i64 x.f2, .int .i64 x.f3] 112))
      have HO1 := Lib.hid (HO.out.alloc (.cells #[.int .i64 x.f0, .int .i64 x.f1, .int .i64 x.f2, .int .i64 x.f3] 112))
      have HX1 := Lib.hid (show (n : Int) :: (l.take (k + 1)).flatMap iO = X ++ iO x by rw [flat_one_more hz, ← HX.out.1]; rfl)
      have CI := Lib.hid (ints_Op x (wr.alloc (.cells #[.int .i64 x.f0, .int .i64 x.f1, .int .i64 x.f2, .int .i64 x.f3] 112)))
      clear hz hc
      go_wp2_with fail
      refine CI.out.mono ?_
      rintro e w2 ⟨A2, c2, rfl, hF2, hb2⟩
      have HB2 := Lib.hid (below_trans HB1.out hb2 (Nat.le_refl _))
      have HO2 := Lib.hid (own_newer HO1.out hb2)
      have HF2 := Lib.hid hF2
      have HS2 := Lib.hid HB2.out.size
      clear hb2 hF2 CI
      go_wp2_with (at_builtin; refine wp_app rfl _ _ _ rfl w.heap.size 3 (.int .i64 0) 1 8 Tryz.underlying72 info_int rfl (by decide) _ _ _ rfl HO2.out _ _ A2 4 c2 (i64s (iO x)) rfl (HF2.out.rd) (ints_oneCell _ _) (by unfold maxLen; omega) (by omega) HS2.out ?_; intro v3 w3 ho3 hb3 _ _)
      have HO3 := Lib.hid (show w3.ownsRow w.heap.size 3 1 v3 (nn + 4) (i64s (X ++ iO x)) by rw [i64s_app]; exact ho3)
      have HB3 := Lib.hid (HB2.out.trans hb3)
      clear ho3 hb3
      go_wp2_with fail
      go_roundg (n - (k + 1))
      case measure => omega
      case rel => exact ⟨k + 1, nn + 4, X ++ iO x, by omega, by omega, by go_num, by omega, Lib.hid ⟨HX1.out, by rw [List.length_append, iO_len, HX.out.2]⟩, HO3, HB3⟩
    · obtain rfl : k = n := by omega
      have HE := Lib.hid (show cnt iO l = X by rw [← HX.out.1, List.take_of_length_le (by rw [HL.out]; omega)]; unfold cnt; rw [HL.out])
      go_wp2_with fail
      go_ret
      rw [HE.out, ← HX.out.2]
      exact makes_of_own HO.out HB.out
end Go.Proofs.YtmelfgimhilhbaaGreatDoor
