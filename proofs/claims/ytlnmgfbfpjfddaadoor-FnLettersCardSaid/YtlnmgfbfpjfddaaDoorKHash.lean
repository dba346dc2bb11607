/- KeyedHash, of the program and of the model, answer the hash of the key, the values and the key. -/
import Derived.Test.YtlnmgfbfpjfddaaDoorConcat
import Derived.Test.YtlnmgfbfpjfddaaDoorHash
namespace Go.Proofs.YtlnmgfbfpjfddaaDoor
open Go Go.ChangeShapes Go.WideShapes Go.ChangeAt Go.RowKit Go.Lib
set_option linter.unusedVariables false
set_option maxRecDepth 100000
def mKHash (key : Int) (l : List Int) : Int := mHash (key :: (l ++ [key]))
theorem mKHash_bd (key : Int) (l : List Int) : 0 ≤ mKHash key l ∧ mKHash key l < 2147483647 := mHash_bd _
theorem i64s_key {key : Int} {l : List Int} (hk : (Lit.int .i64 key).wf = true) (h : I64s l) : Hid (I64s (key :: (l ++ [key]))) := by
 intro z hz
 simp only [List.mem_cons, List.mem_append, List.not_mem_nil, or_false] at hz
 rcases hz with rfl | hz | rfl
 ·
  exact bounds_i64 hk
 ·
  exact h z hz
 ·
  exact bounds_i64 hk
theorem impl_KeyedHash' (key : Int) (l : List Int) (A : Option Addr) (n c lo hi : Nat) (w : World) (wk : (Lit.int .i64 key).wf = true) (hn : n ≤ 1099511627000) (hr : Rd w lo hi 1 A n (i64s l)) (hb : Hid (I64s l)) :
  Calls Tryd.prog 91 #[.int .i64 key, .slice A n c] w (Says (.int .i64 (mKHash key l)) w) := by
 have HI := i64s_key wk hb.out
 have HL := Lib.hid (show l.length = n by simpa using hr.1)
 have HC := Lib.hid (show catL [⟨some ⟨w.heap.size, 0, none⟩, 1, 1, [key]⟩, ⟨A, n, c, l⟩, ⟨some ⟨w.heap.size + 1, 0, none⟩, 1, 1, [key]⟩] = key :: (l ++ [key]) by simp [catL])
 have HN := Lib.hid (show catN [⟨some ⟨w.heap.size, 0, none⟩, 1, 1, [key]⟩, ⟨A, n, c, l⟩, ⟨some ⟨w.heap.size + 1, 0, none⟩, 1, 1, [key]⟩] = n + 2 by unfold catN; rw [HC.out]; simp [HL.out])
 have H0 := rd_lit w #[.int .i64 key] 3 1 1 rfl
 have H1 := rd_lit (w.alloc (.cells #[.int .i64 key] 3)) #[.int .i64 key] 3 1 1 rfl
 have HS : Hid (∀ s ∈ ([⟨some ⟨w.heap.size, 0, none⟩, 1, 1, [key]⟩, ⟨A, n, c, l⟩, ⟨some ⟨w.heap.size + 1, 0, none⟩, 1, 1, [key]⟩] : List SlV), ∀ o, Rd (((w.alloc (.cells #[.int .i64 key] 3)).alloc (.cells #[.int .i64 key] 3)).alloc o) 0 (((w.alloc (.cells #[.int .i64 key] 3)).alloc (.cells #[.int .i64 key] 3)).alloc o).heap.size 1 s.A s.n (i64s s.l)) := by
  intro s hs o
  simp only [List.mem_cons, List.not_mem_nil, or_false] at hs
  rcases hs with rfl | rfl | rfl
  ·
   exact ((H0.alloc _).alloc _).mono (by omega) (by simp)
  ·
   have h := (((hr.alloc (.cells #[.int .i64 key] 3)).alloc (.cells #[.int .i64 key] 3)).alloc o)
   refine ⟨h.1, fun h0 => ?_⟩
   obtain ⟨b, off, hA, _, _, hc⟩ := h.2 h0
   refine ⟨b, off, hA, Nat.zero_le _, ?_, hc⟩
   have h0' : 0 < n := h0
   have hlt : 0 < (i64s l).length := by have h1 := h.1; simp only [Nat.mul_one] at h1; omega
   exact World.block_lt_of_cell? _ _ (hc 0 _ (List.getElem?_eq_getElem hlt))
  ·
   have h := (H1.alloc o)
   simp only [World.size_alloc] at h
   exact h.mono (by omega) (by simp)
 have HM := Lib.hid (rd_lit ((w.alloc (.cells #[.int .i64 key] 3)).alloc (.cells #[.int .i64 key] 3)) #[.slice (some ⟨w.heap.size, 0, none⟩) 1 1, .slice A n c, .slice (some ⟨w.heap.size + 1, 0, none⟩) 1 1] 40 3 1 rfl)
 simp only [World.size_alloc] at HM
 clear hr H0 H1 wk
 go_enter Tryd.func91, Tryd.ntmps91
 go_wp2_with fail
 refine (concat_int [⟨some ⟨w.heap.size, 0, none⟩, 1, 1, [key]⟩, ⟨A, n, c, l⟩, ⟨some ⟨w.heap.size + 1, 0, none⟩, 1, 1, [key]⟩] _ 3 3 _ _ _ (by omega) HM.out (fun s hs => HS.out s hs _) (by rw [HN.out]; omega) (by rw [HN.out]; omega)).mono ?_
 rintro e w1 ⟨CA, cc, rfl, FC, B1⟩
 have FC := Lib.hid FC
 rw [HC.out] at FC
 have G := Lib.hid ((((Below.refl w.heap.size w).alloc (Nat.le_refl _) (.cells #[.int .i64 key] 3)).alloc (by simp) (.cells #[.int .i64 key] 3)).alloc (by simp <;> omega) (.cells #[.slice (some ⟨w.heap.size, 0, none⟩) 1 1, .slice A n c, .slice (some ⟨w.heap.size + 1, 0, none⟩) 1 1] 40) |>.trans (B1.mono (by simp <;> omega)))
 clear B1
 have HN2 := Lib.hid (show (key :: (l ++ [key])).length = n + 2 by simp [HL.out])
 go_wp2_with fail
 refine (impl_Hash' (key :: (l ++ [key])) _ _ cc _ _ _ (by rw [HN2.out]; omega) FC.out.rd HI).mono ?_
 rintro e w2 ⟨rfl, rfl⟩
 go_wp2_with fail
 go_ret
 exact ⟨rfl, G.out⟩
theorem spec_KeyedHash' (key : Int) (l : List Int) (A : Option Addr) (n c lo hi : Nat) (w : World) (wk : (Lit.int .i64 key).wf = true) (hn : n ≤ 1099511627000) (hr : Rd w lo hi 1 A n (i64s l)) (hb : Hid (I64s l)) :
  Calls Tryd.prog 100 #[.int .i64 key, .slice A n c] w (Says (.int .i64 (mKHash key l)) w) := by
 have HI := i64s_key wk hb.out
 have HL := Lib.hid (show l.length = n by simpa using hr.1)
 have HN2 := Lib.hid (show (key :: (l ++ [key])).length = n + 2 by simp [HL.out])
 have HR := Lib.hid hr
 have HO := Lib.hid (World.ownsRow_lit (e := 3) (size := 1) w #[.int .i64 key] 1 (Nat.le_refl _) (by unfold maxLen; omega) rfl)
 clear hr wk
 go_enter Tryd.func100, Tryd.ntmps100
 go_wp2_with (first
  | (at_builtin; refine wp_app rfl (.tmp 6) (.tmp 7) _ rfl w.heap.size 3 (.int .i64 0) 1 8 Tryd.underlying40 info_int' rfl (by decide) _ _ _ rfl HO.out lo hi A n c (i64s l) rfl (HR.out.alloc _) (ints_oneCell _ _) (by unfold maxLen; omega) (by omega) (by simp) ?_; intro v1 w1 ho1 hb1 _ _; have HO1 := Lib.hid ho1; have HB1 := Lib.hid (((Below.refl w.heap.size w).alloc (Nat.le_refl _) _).trans hb1); clear ho1 hb1)
  | (at_builtin; refine wp_app_lit rfl (.tmp 8) (.tmp 10) _ rfl w.heap.size 3 (.int .i64 0) 1 8 Tryd.underlying40 info_int' rfl (by decide) _ _ _ rfl HO1.out #[.int .i64 key] 1 1 _ rfl rfl rfl (ints_oneCell .i64 [key]) (by unfold maxLen; omega) (by omega) HB1.out.size ?_; intro v2 w2 ho2 hb2; have HO2 := Lib.hid ho2; have HB2 := Lib.hid (HB1.out.trans hb2); clear ho2 hb2))
 obtain ⟨CA, cc, rfl, FC⟩ := fr_of_own HO2.out
 have FC := Lib.hid FC
 refine (spec_Hash' (key :: (l ++ [key])) CA _ cc _ _ _ (by omega) (by have h := FC.out.rd; simpa using h) HI).mono ?_
 rintro e w3 ⟨rfl, rfl⟩
 go_wp2_with fail
 go_ret
 exact ⟨rfl, HB2.out⟩
theorem impl_KeyedHash (a0 : Int) (l1 : List Int) (A1 : Option Addr) (n1 c1 lo1 hi1 : Nat) (w : World) (w0 : (Lit.int .i64 a0).wf = true) (h1 : n1 ≤ 1048576) (r1 : Rd w lo1 hi1 1 A1 n1 (i64s l1)) (b1 : Hid (I64s l1)) :
  Calls Tryd.prog 91 #[.int .i64 a0, .slice A1 n1 c1] w (Says (.int .i64 (mKHash a0 l1)) w) := impl_KeyedHash' a0 l1 A1 n1 c1 lo1 hi1 w w0 (by omega) r1 b1
theorem spec_KeyedHash (a0 : Int) (l1 : List Int) (A1 : Option Addr) (n1 c1 lo1 hi1 : Nat) (w : World) (w0 : (Lit.int .i64 a0).wf = true) (h1 : n1 ≤ 1048576) (r1 : Rd w lo1 hi1 1 A1 n1 (i64s l1)) (b1 : Hid (I64s l1)) :
  Calls Tryd.prog 100 #[.int .i64 a0, .slice A1 n1 c1] w (Says (.int .i64 (mKHash a0 l1)) w) := spec_KeyedHash' a0 l1 A1 n1 c1 lo1 hi1 w w0 (by omega) r1 b1
end Go.Proofs.YtlnmgfbfpjfddaaDoor
