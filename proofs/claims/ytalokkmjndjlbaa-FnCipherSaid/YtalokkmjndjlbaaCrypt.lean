/- Encrypt and Decrypt, of the program and of the model. -/
import Derived.Test.YtalokkmjndjlbaaKHash
import Derived.Test.YtalokkmjndjlbaaSlB
import Derived.Test.YtalokkmjndjlbaaB2I
import Derived.Test.YtalokkmjndjlbaaRws
import Derived.Deep.RegionHeld3
namespace Go.Proofs.Ytalokkmjndjlbaa
open Go Go.ChangeShapes Go.WideShapes Go.ChangeAt Go.RowKit Go.Lib
set_option linter.unusedVariables false
set_option maxRecDepth 100000

/-- What the stream adds to the byte at index i. -/
def strm (key : Int) (i : Nat) : Int := mKHash key [(i : Int)]
theorem strm_bd (key : Int) (i : Nat) : 0 ≤ strm key i ∧ strm key i < 2147483647 := mKHash_bd _ _
def mCry (key f : Int) (l : List Int) : List Int := l.mapIdx fun i z => (z + f * strm key i) % 256
theorem mCry_len (key f : Int) (l : List Int) : (mCry key f l).length = l.length := by simp [mCry]
theorem mCry_get {key f : Int} {l : List Int} {k : Nat} {z : Int} (h : l[k]? = some z) : (mCry key f l)[k]? = some ((z + f * strm key k) % 256) := by
  unfold mCry
  rw [List.getElem?_mapIdx, h]; rfl

theorem next_key (key : Int) (i gk gi : Nat) (w : World) (hi : i ≤ 17592186044416) (wk : (Lit.int .i64 key).wf = true) (hk : BoxAt w gk 3 #[.int .i64 key]) (hx : BoxAt w gi 3 #[.int .i64 (i : Int)]) (hne : gk ≠ gi) :
    Calls Try.prog 49 #[.pointer (some ⟨gk, 0, none⟩), .pointer (some ⟨gi, 0, none⟩)] w (fun e w' => e = .returned (.int .i64 (strm key i)) ∧ BoxAt w' gi 3 #[.int .i64 ((i : Int) + 1)] ∧ w.grownBy w' (some gi)) := by
  have c0 := hk.at_ (j := 0) (u := .int .i64 key) rfl
  have c1 := hx.at_ (j := 0) (u := .int .i64 (i : Int)) rfl
  have HX := Lib.hid hx
  have HK := Lib.hid hk
  have WK := Lib.hid wk
  have hkl := hk.lt
  have hil := hx.lt
  have HR := Lib.hid (rd_lit w #[.int .i64 (i : Int)] 3 1 1 rfl)
  have HI : Hid (I64s [(i : Int)]) := fun z hz => by
    simp only [List.mem_singleton] at hz
    subst hz; omega
  clear hk hx wk
  go_enter Try.func49, Try.ntmps49
  go_wp2_with fail
  refine (impl_KeyedHash' key [(i : Int)] _ 1 1 _ _ _ WK.out (by omega) HR.out HI).mono ?_
  rintro e w1 ⟨rfl, hb⟩
  have HX1 := Lib.hid ((HX.out.alloc_ _).new hb)
  have c1' := HX1.out.at_ (j := 0) (u := .int .i64 (i : Int)) rfl
  have f1 := HX1.out.free 0
  have HG := Lib.hid (show w.grownBy w1 (some gi) from ⟨hb.os, hb.tape, hb.output, Nat.le_trans (by simp) hb.size, fun q hq _ => (hb.block q (by simp; omega)).trans (Below.heap_alloc w _ q hq)⟩)
  clear hb c0 c1
  go_wp2_with fail
  go_ret
  refine ⟨rfl, ?_, ?_⟩
  · have h := HX1.out
    unfold BoxAt at h ⊢
    simp [World.setCell, Array.getElem?_modify, h]
  · exact ⟨HG.out.os, HG.out.tape, HG.out.output, by simpa [World.setCell] using HG.out.size, fun q hq hne' => (Below.heap_setCell _ _ _ q (fun e => hne' (by rw [e]))).trans (HG.out.block q hq hne')⟩
theorem key_stream (key : Int) (w : World) :
    Calls Try.prog 45 #[.int .i64 key] w (fun e w' => e = .returned (.func (.func 49) #[] #[.pointer (some ⟨w.heap.size, 0, none⟩), .pointer (some ⟨w.heap.size + 1, 0, none⟩)]) ∧ ((w.alloc (.cells #[.int .i64 key] 3)).alloc (.cells #[.int .i64 0] 3)) = w') := by
  go_enter Try.func45, Try.ntmps45
  go_wp2
  go_ret
  exact ⟨rfl, rfl⟩
theorem apply_add (key : Int) (l : List Int) (A : Option Addr) (n c lo hi : Nat) (w : World) (hn : n ≤ 1048576) (wk : (Lit.int .i64 key).wf = true) (hr : Rd w lo hi 1 A n (u8s l)) (hok : Hid (U8s l)) :
    Calls Try.prog 37 #[.int .i64 key, .slice A n c, .int .i64 1] w (Makes 5 1 n (u8s (mCry key 1 l)) w) := by
  have hmk := run_make_row' (P := Try.prog) 22 5 (.int .u8 0) 1 Try.underlying22 (by kernel_rfl) rfl .i64 .i64 n (by omega) (by omega)
  have HR := Lib.hid hr
  have HL := Lib.hid (show l.length = n by simpa using hr.1)
  have WK := Lib.hid wk
  clear hr wk
  go_enter Try.func37, Try.ntmps37
  go_wp2_with fail
  refine (key_stream key _).mono ?_
  rintro e w1 ⟨rfl, rfl⟩
  go_wp2_with fail
  go_loopw [18] (fun i wr => ∃ k : Nat, k ≤ n ∧ i = .int .i64 k ∧ BoxAt wr w.heap.size 3 #[.int .i64 key] ∧ BoxAt wr (w.heap.size + 1) 3 #[.int .i64 (k : Int)] ∧ Pre wr (w.heap.size + 1 + 1) 5 n (u8s (mCry key 1 l)) k ∧ Below w.heap.size w wr) (fun i _ => n - (intOf i).toNat)
  case atStart =>
    refine ⟨0, Nat.zero_le _, rfl, ((box_new w _ _).alloc_ _).alloc_ _, ?_, ?_, ?_⟩
    · have h := (box_new (w.alloc (.cells #[.int .i64 key] 3)) 3 #[.int .i64 0])
      simp only [World.size_alloc] at h
      exact h.alloc_ _
    · have h := pre_start (w := (w.alloc (.cells #[.int .i64 key] 3)).alloc (.cells #[.int .i64 0] 3)) (E := 5) (xs := u8s (mCry key 1 l)) (cs := madeCells #[.int .u8 0] n) (m := n) (by rw [size_madeCells])
      simp only [World.size_alloc] at h
      exact h
    · exact (((Below.refl _ _).alloc (Nat.le_refl _) _).alloc (by simp) _).alloc (by simp <;> omega) _
  case round =>
    obtain ⟨k, hk, rfl, hK, hX, hP, hb⟩ := hrel
    have HB := Lib.hid hb
    by_cases hlt : k < n
    · obtain ⟨b, off, z, rfl, _, _, hz, hc⟩ := rd_int (HR.out.new hb) hlt
      have hzb := hok.out z (List.mem_of_getElem? hz)
      have hz0 := hzb.1
      have hz1 := hzb.2
      have s0 := (strm_bd key k).1
      have s1 := (strm_bd key k).2
      have HG := Lib.hid (map_get_lt (Value.int .u8) (mCry key 1 l) k (by rw [mCry_len, HL.out]; exact hlt))
      have HV := Lib.hid (show (u8s (mCry key 1 l))[k]? = some (.int .u8 ((z + strm key k) % 256)) by
        have h := mCry_get (key := key) (f := 1) hz
        rw [show (z + 1 * strm key k) % 256 = (z + strm key k) % 256 by omega] at h
        rw [List.getElem?_map, h]; rfl)
      have HK := Lib.hid hK
      have HX := Lib.hid hX
      have HP := Lib.hid hP
      clear hK hX hP hb hz hzb
      go_wp2_with fail
      refine (next_key key k w.heap.size (w.heap.size + 1) _ (by omega) WK.out HK.out HX.out (by omega)).mono ?_
      rintro e w1 ⟨rfl, hx1, hg1⟩
      have HK1 := Lib.hid (HK.out.grown hg1 (by omega))
      have HX1 := Lib.hid hx1
      have HP1 := Lib.hid (HP.out.keep (hg1.block _ HP.out.lt (by intro e; injection e with e; omega)))
      have HB1 := Lib.hid (HB.out.grown hg1 HB.out.size (fun q hq => by injection hq with hq; omega))
      obtain ⟨q0, d0⟩ := HP1.out.cell (j := k) hlt
      have g0 := HP1.out.frozen k
      clear hx1 hg1 hc
      go_wp2_with fail
      go_roundw
      case rel => exact ⟨k + 1, by omega, by go_num, HK1.out.keep (Below.heap_setCell _ _ _ _ (by simp <;> omega)), HX1.out.keep (Below.heap_setCell _ _ _ _ (by simp <;> omega)), HP1.out.step HV.out, HB1.out.setCell (by simp; omega) _⟩
      case measure => simp [intOf]; omega
    · obtain rfl : k = n := by omega
      have HP := Lib.hid hP
      clear hK hX hP hb
      go_wp2_with fail
      go_ret
      exact ⟨_, _, rfl, (HP.out.at_ (by omega) |> fun h => Pre.fr (size := 1) (by simpa using h) (by omega) (by have := HP.out.lt; exact this) (by unfold maxLen; omega) (by simp [mCry_len, HL.out])), HB.out⟩
theorem apply_sub (key : Int) (l : List Int) (A : Option Addr) (n c lo hi : Nat) (w : World) (hn : n ≤ 1048576) (wk : (Lit.int .i64 key).wf = true) (hr : Rd w lo hi 1 A n (u8s l)) (hok : Hid (U8s l)) :
    Calls Try.prog 37 #[.int .i64 key, .slice A n c, .int .i64 (-1)] w (Makes 5 1 n (u8s (mCry key (-1) l)) w) := by
  have hmk := run_make_row' (P := Try.prog) 22 5 (.int .u8 0) 1 Try.underlying22 (by kernel_rfl) rfl .i64 .i64 n (by omega) (by omega)
  have HR := Lib.hid hr
  have HL := Lib.hid (show l.length = n by simpa using hr.1)
  have WK := Lib.hid wk
  clear hr wk
  go_enter Try.func37, Try.ntmps37
  go_wp2_with fail
  refine (key_stream key _).mono ?_
  rintro e w1 ⟨rfl, rfl⟩
  go_wp2_with fail
  go_loopw [18] (fun i wr => ∃ k : Nat, k ≤ n ∧ i = .int .i64 k ∧ BoxAt wr w.heap.size 3 #[.int .i64 key] ∧ BoxAt wr (w.heap.size + 1) 3 #[.int .i64 (k : Int)] ∧ Pre wr (w.heap.size + 1 + 1) 5 n (u8s (mCry key (-1) l)) k ∧ Below w.heap.size w wr) (fun i _ => n - (intOf i).toNat)
  case atStart =>
    refine ⟨0, Nat.zero_le _, rfl, ((box_new w _ _).alloc_ _).alloc_ _, ?_, ?_, ?_⟩
    · have h := (box_new (w.alloc (.cells #[.int .i64 key] 3)) 3 #[.int .i64 0])
      simp only [World.size_alloc] at h
      exact h.alloc_ _
    · have h := pre_start (w := (w.alloc (.cells #[.int .i64 key] 3)).alloc (.cells #[.int .i64 0] 3)) (E := 5) (xs := u8s (mCry key (-1) l)) (cs := madeCells #[.int .u8 0] n) (m := n) (by rw [size_madeCells])
      simp only [World.size_alloc] at h
      exact h
    · exact (((Below.refl _ _).alloc (Nat.le_refl _) _).alloc (by simp) _).alloc (by simp <;> omega) _
  case round =>
    obtain ⟨k, hk, rfl, hK, hX, hP, hb⟩ := hrel
    have HB := Lib.hid hb
    by_cases hlt : k < n
    · obtain ⟨b, off, z, rfl, _, _, hz, hc⟩ := rd_int (HR.out.new hb) hlt
      have hzb := hok.out z (List.mem_of_getElem? hz)
      have hz0 := hzb.1
      have hz1 := hzb.2
      have s0 := (strm_bd key k).1
      have s1 := (strm_bd key k).2
      have HG := Lib.hid (map_get_lt (Value.int .u8) (mCry key (-1) l) k (by rw [mCry_len, HL.out]; exact hlt))
      have HV := Lib.hid (show (u8s (mCry key (-1) l))[k]? = some (.int .u8 ((z + -strm key k) % 256)) by
        have h := mCry_get (key := key) (f := (-1)) hz
        rw [show (z + (-1) * strm key k) % 256 = (z + -strm key k) % 256 by omega] at h
        rw [List.getElem?_map, h]; rfl)
      have HK := Lib.hid hK
      have HX := Lib.hid hX
      have HP := Lib.hid hP
      clear hK hX hP hb hz hzb
      go_wp2_with fail
      refine (next_key key k w.heap.size (w.heap.size + 1) _ (by omega) WK.out HK.out HX.out (by omega)).mono ?_
      rintro e w1 ⟨rfl, hx1, hg1⟩
      have HK1 := Lib.hid (HK.out.grown hg1 (by omega))
      have HX1 := Lib.hid hx1
      have HP1 := Lib.hid (HP.out.keep (hg1.block _ HP.out.lt (by intro e; injection e with e; omega)))
      have HB1 := Lib.hid (HB.out.grown hg1 HB.out.size (fun q hq => by injection hq with hq; omega))
      obtain ⟨q0, d0⟩ := HP1.out.cell (j := k) hlt
      have g0 := HP1.out.frozen k
      clear hx1 hg1 hc
      go_wp2_with fail
      go_roundw
      case rel => exact ⟨k + 1, by omega, by go_num, HK1.out.keep (Below.heap_setCell _ _ _ _ (by simp <;> omega)), HX1.out.keep (Below.heap_setCell _ _ _ _ (by simp <;> omega)), HP1.out.step HV.out, HB1.out.setCell (by simp; omega) _⟩
      case measure => simp [intOf]; omega
    · obtain rfl : k = n := by omega
      have HP := Lib.hid hP
      clear hK hX hP hb
      go_wp2_with fail
      go_ret
      exact ⟨_, _, rfl, (HP.out.at_ (by omega) |> fun h => Pre.fr (size := 1) (by simpa using h) (by omega) (by have := HP.out.lt; exact this) (by unfold maxLen; omega) (by simp [mCry_len, HL.out])), HB.out⟩
theorem impl_Encrypt (a0 : Int) (l1 : List Int) (A1 : Option Addr) (n1 c1 lo1 hi1 : Nat) (w : World) (w0 : (Lit.int .i64 a0).wf = true) (h1 : n1 ≤ 1048576) (r1 : Rd w lo1 hi1 1 A1 n1 (u8s l1)) (b1 : Hid (U8s l1)) :
    Calls Try.prog 14 #[.int .i64 a0, .slice A1 n1 c1] w (Makes 5 1 (mCry a0 1 l1).length (u8s (mCry a0 1 l1)) w) := by
  have HL := Lib.hid (show (mCry a0 1 l1).length = n1 by rw [mCry_len]; simpa using r1.1)
  have R1 := Lib.hid r1
  have W0 := Lib.hid w0
  clear r1 w0
  rw [HL.out]
  go_enter Try.func14, Try.ntmps14
  go_wp2_with fail
  refine (apply_add a0 l1 A1 n1 c1 lo1 hi1 _ h1 W0.out R1.out b1).mono ?_
  rintro e w1 ⟨A, c, rfl, hF, hb⟩
  have HF := Lib.hid hF
  have HB := Lib.hid hb
  clear hF hb
  go_wp2_with fail
  go_ret
  exact ⟨A, c, rfl, HF.out, HB.out⟩
theorem impl_Decrypt (a0 : Int) (l1 : List Int) (A1 : Option Addr) (n1 c1 lo1 hi1 : Nat) (w : World) (w0 : (Lit.int .i64 a0).wf = true) (h1 : n1 ≤ 1048576) (r1 : Rd w lo1 hi1 1 A1 n1 (u8s l1)) (b1 : Hid (U8s l1)) :
    Calls Try.prog 13 #[.int .i64 a0, .slice A1 n1 c1] w (Makes 5 1 (mCry a0 (-1) l1).length (u8s (mCry a0 (-1) l1)) w) := by
  have HL := Lib.hid (show (mCry a0 (-1) l1).length = n1 by rw [mCry_len]; simpa using r1.1)
  have R1 := Lib.hid r1
  have W0 := Lib.hid w0
  clear r1 w0
  rw [HL.out]
  go_enter Try.func13, Try.ntmps13
  go_wp2_with fail
  refine (apply_sub a0 l1 A1 n1 c1 lo1 hi1 _ h1 W0.out R1.out b1).mono ?_
  rintro e w1 ⟨A, c, rfl, hF, hb⟩
  have HF := Lib.hid hF
  have HB := Lib.hid hb
  clear hF hb
  go_wp2_with fail
  go_ret
  exact ⟨A, c, rfl, HF.out, HB.out⟩
end Go.Proofs.Ytalokkmjndjlbaa
