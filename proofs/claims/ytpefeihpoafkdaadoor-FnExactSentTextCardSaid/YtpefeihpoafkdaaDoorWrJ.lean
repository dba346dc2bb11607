/- joined and listText of the program. -/
import Derived.Test.YtpefeihpoafkdaaDoorWr
import Derived.Test.YtpefeihpoafkdaaDoorTxJoin
import Derived.Deep.LoopGhost
namespace Go.Proofs.YtpefeihpoafkdaaDoor
open Go Go.ChangeShapes Go.WideShapes Go.ChangeAt Go.RowKit Go.Lib
set_option linter.unusedVariables false
set_option linter.unusedSimpArgs false
set_option maxRecDepth 100000
theorem join_take0 (ts : List (List UInt8)) (sep : List UInt8) : Lib.join (ts.take 0) sep = [] := by rw [List.take_zero]; rfl
theorem join_take1 {ts : List (List UInt8)} {sep t : List UInt8} (h : ts[0]? = some t) : Lib.join (ts.take (0 + 1)) sep = t := by
  rw [List.take_add_one, h, List.take_zero]
  exact Lib.join_one _ _
theorem join_takes {ts : List (List UInt8)} {sep t : List UInt8} {k : Nat} (h : ts[k]? = some t) (hk : 0 < k) : Lib.join (ts.take (k + 1)) sep = Lib.join (ts.take k) sep ++ sep ++ t := by
  rw [List.take_add_one, h, Option.toList_some]
  refine join_snoc ?_
  intro e
  have hl := (List.getElem?_eq_some_iff.1 h).1
  have := congrArg List.length e
  rw [List.length_take, List.length_nil] at this
  omega
theorem join_len_le (ts : List (List UInt8)) (sep : List UInt8) (k : Nat) : (Lib.join (ts.take k) sep).length ≤ ts.flatten.length + sep.length * ts.length := by
  have h : ∀ us : List (List UInt8), (Lib.join us sep).length ≤ us.flatten.length + sep.length * us.length := by
    intro us
    induction us with
    | nil => simp [Lib.join_nil]
    | cons x r ih =>
      cases r with
      | nil => rw [Lib.join_one]; simp
      | cons y r =>
        rw [join_two, List.length_append, List.length_append]
        simp only [List.flatten_cons, List.length_append, List.length_cons] at ih ⊢
        rw [Nat.mul_add, Nat.mul_one]
        omega
  refine Nat.le_trans (h _) ?_
  have h1 := flatt_le ts k
  have h2 : sep.length * (ts.take k).length ≤ sep.length * ts.length := Nat.mul_le_mul_left _ (by rw [List.length_take]; omega)
  omega
def vStr (t : List UInt8) : Value := .string ⟨t.toArray⟩
theorem rd_str {w : World} {lo hi n : Nat} {A : Option Addr} {ts : List (List UInt8)} {k : Nat} (h : Rd w lo hi 1 A n (ts.map vStr)) (hk : k < n) : ∃ b off t, A = some ⟨b, off, none⟩ ∧ ts[k]? = some t ∧ w.cell? ⟨b, off + k, none⟩ = some (.string ⟨t.toArray⟩) := by
  obtain ⟨b, off, u, e, _, _, hu, hc⟩ := h.at1 hk
  obtain ⟨t, ht, rfl⟩ := map_get _ _ _ _ hu
  exact ⟨b, off, t, e, ht, hc⟩
set_option maxHeartbeats 16000000 in
theorem impl_joined (ts : List (List UInt8)) (A : Option Addr) (n c lo hi : Nat) (sep : List UInt8) (w : World) (hn : n ≤ 1048576) (hl : ts.flatten.length + sep.length * n ≤ 100000000) (hs : sep.length ≤ 1) (hr : Rd w lo hi 1 A n (ts.map vStr)) :
    Calls Tryd.prog 31 #[.slice A n c, .string ⟨sep.toArray⟩] w (Says (.string ⟨(Lib.join ts sep).toArray⟩) w) := by
  have HLn := Lib.hid (show ts.length = n by have := hr.1; simpa using this)
  have HR := Lib.hid hr
  have HLe := Lib.hid (fun k => show (Lib.join (ts.take k) sep).length ≤ 100000000 by have := join_len_le ts sep k; rw [HLn.out] at this; omega)
  have HT := Lib.hid (fun (k : Nat) t (h : ts[k]? = some t) => show t.length ≤ 100000000 by
    have h1 := flatt_le ts (k + 1)
    rw [flatt_snoc h, List.length_append] at h1
    omega)
  have HW0 := Lib.hid (show Wrt (w.alloc (.cells #[.slice none 0 0] 65)) w.heap.size (w.heap.size + 1) (Lib.join (ts.take 0) sep) (.slice none 0 0) by rw [join_take0]; exact wrt_zero w _)
  clear hr
  go_enter Tryd.func31, Tryd.ntmps31
  go_wp2_with fail
  go_loopg [10] n (fun gg i wr => ∃ (k : Nat) (v : Value), k ≤ n ∧ n - k ≤ gg ∧ i = .int .i64 k ∧ Hid (Wrt wr w.heap.size (w.heap.size + 1) (Lib.join (ts.take k) sep) v) ∧ Hid (Below w.heap.size w wr))
  case atStart => exact ⟨0, _, Nat.zero_le _, by omega, rfl, HW0, Lib.hid ((Below.refl _ _).alloc (Nat.le_refl _) _)⟩
  case round =>
    obtain ⟨k, v, hk, hg, rfl, HW, HB⟩ := hrel
    clear HW0
    have hgl : w.heap.size < wr.heap.size := HW.out.1.lt
    by_cases hlt : k < n
    · obtain ⟨b, off, t, rfl, ht, hct⟩ := rd_str (HR.out.new HB.out) hlt
      have HZ := Lib.hid ht
      clear ht
      have PUT : Hid (∀ (W : World) (J : List UInt8) (v : Value) (t : List UInt8), w.heap.size < W.heap.size → J.length ≤ 100000001 → t.length ≤ 100000000 → Wrt W w.heap.size (w.heap.size + 1) J v → Below w.heap.size w W →
          Calls Tryd.prog 32 #[.pointer (some ⟨w.heap.size, 0, none⟩), .slice (some ⟨W.heap.size, 0, none⟩) 1 1] (W.alloc (.cells #[.string ⟨t.toArray⟩] 9))
            (fun e w' => e = .returned (.tuple #[]) ∧ ∃ v', Wrt w' w.heap.size (w.heap.size + 1) (J ++ t) v' ∧ Below w.heap.size w w')) := Lib.hid fun W J v t hW hJ ht hwr hbw => by
        have h := impl_put w.heap.size (w.heap.size + 1) J v [t] W.heap.size 0 1 (W.alloc (.cells #[.string ⟨t.toArray⟩] 9)) (by omega) (by simp; omega) (wrt_alloc hwr _) (fun j u hu => by
          rcases j with _ | j
          · simp at hu
            subst hu
            exact (box_new W 9 #[.string ⟨t.toArray⟩]).at_ (j := 0) rfl
          · simp at hu) (by omega) (fun e => by have := (hwr.2.lt _ e).2; omega) (by simp) (by simp; omega)
        refine h.mono ?_
        rintro e w' ⟨he, v', h1, _, h3⟩
        refine ⟨he, v', by simpa using h1, (hbw.alloc hbw.size _).trans (h3.below (Nat.le_refl _) (fun q hq => by have := (hwr.2.lt _ hq).1; omega) (by simp; omega))⟩
      rcases Nat.eq_zero_or_pos k with hk0 | hk0
      · subst hk0
        have hct' : wr.cell? ⟨b, off, none⟩ = some (.string ⟨t.toArray⟩) := hct
        have HP := Lib.hid (PUT.out wr [] v t hgl (by simp) (HT.out _ _ HZ.out) (by have := HW.out; rwa [join_take0] at this) HB.out)
        have HE := Lib.hid (join_take1 (sep := sep) HZ.out)
        clear PUT
        go_wp2_with fail
        refine HP.out.mono ?_
        rintro e w1 ⟨rfl, v1, h1, h2⟩
        have HW1 : Hid (Wrt w1 w.heap.size (w.heap.size + 1) (Lib.join (ts.take 1) sep) v1) := Lib.hid (by rw [show (1 : Nat) = 0 + 1 from rfl, HE.out]; simpa using h1)
        have HB1 := Lib.hid h2
        clear h1 h2
        go_wp2_with fail
        go_roundg (n - 1)
        case measure => omega
        case rel => exact ⟨1, v1, by omega, by omega, rfl, HW1, HB1⟩
      · have HP := Lib.hid (PUT.out wr _ v sep hgl (by have := HLe.out k; omega) (by omega) HW.out HB.out)
        have HE := Lib.hid (join_takes (sep := sep) HZ.out hk0)
        go_wp2_with fail
        refine HP.out.mono ?_
        rintro e w1 ⟨rfl, v1, h1, h2⟩
        have hgl1 : w.heap.size < w1.heap.size := h1.1.lt
        have HP1 := Lib.hid (PUT.out w1 _ v1 t hgl1 (by have := HLe.out k; rw [List.length_append]; omega) (HT.out _ _ HZ.out) h1 h2)
        clear h1 h2 PUT
        go_wp2_with fail
        refine HP1.out.mono ?_
        rintro e w2 ⟨rfl, v2, h1, h2⟩
        have HW2 : Hid (Wrt w2 w.heap.size (w.heap.size + 1) (Lib.join (ts.take (k + 1)) sep) v2) := Lib.hid (by rw [HE.out]; exact h1)
        have HB2 := Lib.hid h2
        clear h1 h2
        go_wp2_with fail
        go_roundg (n - (k + 1))
        case measure => omega
        case rel => exact ⟨k + 1, v2, by omega, by omega, by go_num, HW2, HB2⟩
    · obtain rfl : k = n := by omega
      have HWe := HW.out
      rw [List.take_of_length_le (by rw [HLn.out]; omega)] at HWe
      have CT := Lib.hid (impl_text _ _ _ _ _ HWe)
      clear HWe
      go_wp2_with fail
      refine CT.out.mono ?_
      rintro e w1 ⟨rfl, rfl⟩
      go_wp2_with fail
      go_ret
      exact ⟨rfl, HB.out⟩
def tLst (ts : List (List UInt8)) (sep : List UInt8) : List UInt8 := if Lib.join ts sep = [] then [45] else Lib.join ts sep
theorem impl_listText (ts : List (List UInt8)) (A : Option Addr) (n c lo hi : Nat) (sep : List UInt8) (w : World) (hn : n ≤ 1048576) (hl : ts.flatten.length + sep.length * n ≤ 100000000) (hs : sep.length ≤ 1) (hr : Rd w lo hi 1 A n (ts.map vStr)) :
    Calls Tryd.prog 22 #[.slice A n c, .string ⟨sep.toArray⟩] w (Says (.string ⟨(tLst ts sep).toArray⟩) w) := by
  have CJ := Lib.hid (impl_joined ts A n c lo hi sep w hn hl hs hr)
  obtain ⟨T, HTe⟩ : ∃ T, Hid (tLst ts sep = T) := ⟨_, Lib.hid rfl⟩
  rw [HTe.out]
  clear hr hl
  cases hJ : Lib.join ts sep with
  | nil =>
    have HE := Lib.hid (show T = [45] by rw [← HTe.out]; unfold tLst; rw [if_pos hJ])
    rw [hJ] at CJ
    clear hJ
    go_enter Tryd.func22, Tryd.ntmps22
    go_wp2_with fail
    refine CJ.out.mono ?_
    rintro e w1 ⟨rfl, hb1⟩
    have HB1 := Lib.hid hb1
    clear hb1
    go_wp2_with fail
    go_ret
    exact ⟨by rw [HE.out]; rfl, HB1.out⟩
  | cons u t =>
    have HE := Lib.hid (show T = u :: t by rw [← HTe.out]; unfold tLst; rw [if_neg (by rw [hJ]; simp), hJ])
    rw [hJ] at CJ
    clear hJ
    go_enter Tryd.func22, Tryd.ntmps22
    go_wp2_with fail
    refine CJ.out.mono ?_
    rintro e w1 ⟨rfl, hb1⟩
    have HB1 := Lib.hid hb1
    clear hb1
    go_wp2_with fail
    go_ret
    exact ⟨by rw [HE.out]; rfl, HB1.out⟩

end Go.Proofs.YtpefeihpoafkdaaDoor
