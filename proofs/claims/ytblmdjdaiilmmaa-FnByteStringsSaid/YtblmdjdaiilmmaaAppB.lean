/- AppendBytes and EncodeInts, of the program and of the model. -/
import Derived.Test.YtblmdjdaiilmmaaUv
import Derived.Test.YtblmdjdaiilmmaaSlI
namespace Go.Proofs.Ytblmdjdaiilmmaa
open Go Go.ChangeShapes Go.WideShapes Go.ChangeAt Go.RowKit Go.Lib
set_option linter.unusedVariables false
set_option maxRecDepth 100000
def mAppB (b d : List Int) : List Int := mAppU b d.length ++ d
theorem mAppB_len (b d : List Int) : (mAppB b d).length ≤ b.length + d.length + 7 := by
  unfold mAppB
  have := mAppU_len b d.length
  rw [List.length_append]; omega
def mEnc (l : List Int) : List Int := l.foldl mAppU []
theorem mEnc_snoc {l : List Int} {k : Nat} {z : Int} (h : l[k]? = some z) : mEnc (l.take (k + 1)) = mAppU (mEnc (l.take k)) z := by
  unfold mEnc
  rw [List.take_add_one, h, List.foldl_append]; rfl
theorem foldl_len : ∀ (l b : List Int), (l.foldl mAppU b).length ≤ b.length + 7 * l.length
  | [], b => by simp
  | z :: l, b => by
    have h1 := foldl_len l (mAppU b z)
    have h2 := mAppU_len b z
    simp only [List.foldl_cons, List.length_cons]
    omega
theorem mEnc_len (l : List Int) : (mEnc l).length ≤ 7 * l.length := by
  have := foldl_len l []
  simpa [mEnc] using this

theorem bp_ahead (d : Nat) (A : Option Addr) (n c : Nat) (w : World) : (nilAhead (d + 1) 105 (.slice A n c) "loop.example/g03001/impl.appendTo").run Try.prog w = .ok (some false) w := by kernel_rfl
theorem bp_method (d : Nat) (A : Option Addr) (n c : Nat) (w : World) : (method (d + 1) 105 (.slice A n c) "loop.example/g03001/impl.appendTo").run Try.prog w = .ok (228, .slice A n c) w := by kernel_rfl
theorem ip_ahead (d : Nat) (A : Option Addr) (n c : Nat) (w : World) : (nilAhead (d + 1) 111 (.slice A n c) "loop.example/g03001/impl.appendTo").run Try.prog w = .ok (some false) w := by kernel_rfl
theorem ip_method (d : Nat) (A : Option Addr) (n c : Nat) (w : World) : (method (d + 1) 111 (.slice A n c) "loop.example/g03001/impl.appendTo").run Try.prog w = .ok (230, .slice A n c) w := by kernel_rfl

theorem bp_append (d : List Int) (A : Option Addr) (m c lo hi : Nat) (v : Value) (n base : Nat) (b : List Int) (w : World) (hn : n ≤ 17592186044) (hm : m ≤ 1048576) (hown : w.ownsRow base 5 1 v n (u8s b)) (hbase : base ≤ w.heap.size) (hr : Rd w lo hi 1 A m (u8s d)) (hlo : hi ≤ base) :
    Calls Try.prog 228 #[.slice A m c, v] w (Ext base (mAppB b d).length (u8s (mAppB b d)) w) := by
  have HO := Lib.hid hown
  have HR := Lib.hid hr
  have HLd := Lib.hid (show d.length = m by simpa using hr.1)
  have HLb := Lib.hid (show b.length = n by simpa using hown.1)
  have HML := Lib.hid (mAppU_len b d.length)
  have W : Hid ((Lit.int .i64 (m : Int)).wf = true) := WalkArith.wf_i64 (by omega)
  clear hown hr
  go_enter Try.func228, Try.ntmps228
  go_wp2_with fail
  refine (uvp_append (m : Int) v n base b _ (by omega) HO.out hbase W.out).mono ?_
  rintro e w1 ⟨v1, rfl, ho1, hb1⟩
  rw [← HLd.out] at ho1
  have HO1 := Lib.hid ho1
  have HB1 := Lib.hid hb1
  have HR1 := Lib.hid (HR.out.below hb1 hlo)
  clear ho1 hb1
  go_wp2_with (at_builtin; refine wp_app_tx rfl _ _ _ _ rfl base 5 5 (.int .u8 0) 1 1 Try.underlying22 Try.underlying105 info_u8 rfl (by decide) _ _ _ rfl HO1.out lo hi A m c (u8s d) rfl HR1.out (ints_oneCell _ _) (by have := HML.out; have := HLb.out; unfold maxLen; omega) (by have := HML.out; have := HLb.out; omega) (Nat.le_trans hbase HB1.out.size) ?_; intro v2 w2 ho2 hb2; have HO2 := Lib.hid (show w2.ownsRow base 5 1 v2 (mAppB b d).length (u8s (mAppB b d)) by unfold mAppB; rw [List.length_append, HLd.out]; simpa [HLd.out] using ho2); have HB2 := Lib.hid (HB1.out.trans hb2); clear ho2 hb2)
  go_ret
  exact ⟨_, rfl, HO2.out, HB2.out⟩
theorem part_bp (d : List Int) (B : Option Addr) (m cm lo1 hi1 : Nat) (l : List Int) (A : Option Addr) (n c lo hi : Nat) (w : World) (hn : n ≤ 1048576) (hr : Rd w lo hi 1 A n (u8s l)) (hm : m ≤ 1048576) (hr1 : Rd w lo1 hi1 1 B m (u8s d)) :
    Calls Try.prog 78 #[.slice A n c, .iface 105 (.slice B m cm)] w (MakesO 5 1 (mAppB l d).length (u8s (mAppB l d)) w) := by
  have HR := Lib.hid hr
  have HD := Lib.hid (hr1.old (by decide))
  clear hr hr1
  have na := bp_ahead
  have nm := bp_method
  go_enter Try.func78, Try.ntmps78
  go_wp2_with fail
  go_region_with (first
    | (go_at_call 139; refine (clone_byte l _ n c lo hi w.drew (by omega) (show Rd w.drew lo hi 1 _ n (u8s l) from HR.out)).mono ?_; rintro e w1 ⟨cv, rfl, hco, hcb⟩; have HCO := Lib.hid (show w1.ownsRow w.heap.size 5 1 cv n (u8s l) from hco); have HCB := Lib.hid (show Below w.heap.size w w1 from ⟨hcb.os, hcb.tape, hcb.output, hcb.size, hcb.block⟩); clear hco hcb)
    | (go_at_call 228; refine (bp_append d B m cm 0 w.heap.size cv n w.heap.size l w1 (by omega) (by omega) HCO.out HCB.out.size (HD.out.below HCB.out (Nat.le_refl _)) (Nat.le_refl _)).mono ?_; rintro e w2 ⟨rv, rfl, hco, hcb⟩; have HRO := Lib.hid hco; have HRB := Lib.hid (HCB.out.trans hcb); clear hco hcb))
  all_goals
    go_wp2_with fail
    go_ret
    exact ⟨_, rfl, HRO.out, HRB.out⟩
theorem impl_AppendBytes (l0 : List Int) (A0 : Option Addr) (n0 c0 lo0 hi0 : Nat) (l1 : List Int) (A1 : Option Addr) (n1 c1 lo1 hi1 : Nat) (w : World) (h0 : n0 ≤ 1048576) (r0 : Rd w lo0 hi0 1 A0 n0 (u8s l0)) (b0 : Hid (U8s l0)) (h1 : n1 ≤ 1048576) (r1 : Rd w lo1 hi1 1 A1 n1 (u8s l1)) (b1 : Hid (U8s l1)) :
    Calls Try.prog 17 #[.slice A0 n0 c0, .slice A1 n1 c1] w (Makes 5 1 (mAppB l0 l1).length (u8s (mAppB l0 l1)) w) := by
  have R0 := Lib.hid r0
  have R1 := Lib.hid r1
  clear r0 r1
  go_enter Try.func17, Try.ntmps17
  go_wp2_with fail
  refine (part_bp l1 A1 n1 c1 lo1 hi1 l0 A0 n0 c0 lo0 hi0 _ h0 R0.out h1 R1.out).mono ?_
  rintro e w1 ⟨v, rfl, ho, hb⟩
  have HO := Lib.hid ho
  have HB := Lib.hid hb
  clear ho hb
  go_wp2_with fail
  go_ret
  exact makes_of_own HO.out HB.out
theorem ip_append (d : List Int) (A : Option Addr) (m c lo hi : Nat) (v : Value) (base : Nat) (w : World) (hm : m ≤ 1048576) (hown : w.ownsRow base 5 1 v 0 (u8s [])) (hbase : base ≤ w.heap.size) (hr : Rd w lo hi 1 A m (i64s d)) (hi64 : Hid (I64s d)) (hlo : hi ≤ base) :
    Calls Try.prog 230 #[.slice A m c, v] w (Ext base (mEnc d).length (u8s (mEnc d)) w) := by
  have HO := Lib.hid hown
  have HR := Lib.hid hr
  have HLd := Lib.hid (show d.length = m by simpa using hr.1)
  clear hown hr
  go_enter Try.func230, Try.ntmps230
  go_wp2_with fail
  go_loopw [1, 9] (fun o i wr => ∃ k : Nat, k ≤ m ∧ i = .int .i64 k ∧ wr.ownsRow base 5 1 o (mEnc (d.take k)).length (u8s (mEnc (d.take k))) ∧ Below base w wr) (fun _ i _ => m - (intOf i).toNat)
  case atStart => exact ⟨0, Nat.zero_le _, rfl, HO.out, Below.refl _ _⟩
  case round =>
    obtain ⟨k, hk, rfl, hown, hb⟩ := hrel
    have HB := Lib.hid hb
    have HS := Lib.hid (Nat.le_trans hbase hb.size)
    have HO1 := Lib.hid hown
    by_cases hlt : k < m
    · obtain ⟨b, off, z, rfl, _, _, hz, hc⟩ := rd_int (HR.out.below hb hlo) hlt
      have HE := Lib.hid (mEnc_snoc hz)
      have HW := Lib.hid (WalkArith.wf_i64 (hi64.out z (List.mem_of_getElem? hz)))
      have HN := Lib.hid (Nat.le_trans (mEnc_len (d.take k)) (Nat.mul_le_mul_left 7 (List.length_take_le _ _)))
      clear hb hown hz
      go_wp2_with fail
      refine (uvp_append z _ _ base (mEnc (d.take k)) _ (by have := HN.out; omega) HO1.out HS.out HW.out).mono ?_
      rintro e w1 ⟨v1, rfl, ho1, hb1⟩
      rw [← HE.out] at ho1
      have HO2 := Lib.hid ho1
      have HB2 := Lib.hid (HB.out.trans hb1)
      clear ho1 hb1
      go_wp2_with fail
      go_roundw
      case rel => exact ⟨k + 1, by omega, by go_num, HO2.out, HB2.out⟩
      case measure => simp [intOf]; omega
    · obtain rfl : k = m := by omega
      rw [List.take_of_length_le (by rw [HLd.out]; omega)] at hown
      have HO1 := Lib.hid hown
      clear hb hown
      go_wp2_with fail
      go_ret
      exact ⟨_, rfl, HO1.out, HB.out⟩
theorem part_ip (d : List Int) (B : Option Addr) (m cm lo1 hi1 : Nat) (w : World) (hm : m ≤ 1048576) (hr1 : Rd w lo1 hi1 1 B m (i64s d)) (hi64 : Hid (I64s d)) :
    Calls Try.prog 78 #[.slice none 0 0, .iface 111 (.slice B m cm)] w (MakesO 5 1 (mEnc d).length (u8s (mEnc d)) w) := by
  have HR := Lib.hid (show Rd w 0 0 1 none 0 (u8s []) from Rd.empty)
  have HD := Lib.hid (hr1.old (by decide))
  clear hr1
  have na := ip_ahead
  have nm := ip_method
  go_enter Try.func78, Try.ntmps78
  go_wp2_with fail
  go_region_with (first
    | (go_at_call 139; refine (clone_byte [] _ 0 0 0 0 w.drew (by omega) (show Rd w.drew 0 0 1 _ 0 (u8s []) from HR.out)).mono ?_; rintro e w1 ⟨cv, rfl, hco, hcb⟩; have HCO := Lib.hid (show w1.ownsRow w.heap.size 5 1 cv 0 (u8s []) from hco); have HCB := Lib.hid (show Below w.heap.size w w1 from ⟨hcb.os, hcb.tape, hcb.output, hcb.size, hcb.block⟩); clear hco hcb)
    | (go_at_call 230; refine (ip_append d B m cm 0 w.heap.size cv w.heap.size w1 (by omega) HCO.out HCB.out.size (HD.out.below HCB.out (Nat.le_refl _)) hi64 (Nat.le_refl _)).mono ?_; rintro e w2 ⟨rv, rfl, hco, hcb⟩; have HRO := Lib.hid hco; have HRB := Lib.hid (HCB.out.trans hcb); clear hco hcb))
  all_goals
    go_wp2_with fail
    go_ret
    exact ⟨_, rfl, HRO.out, HRB.out⟩
theorem impl_EncodeInts (l0 : List Int) (A0 : Option Addr) (n0 c0 lo0 hi0 : Nat) (w : World) (h0 : n0 ≤ 1048576) (r0 : Rd w lo0 hi0 1 A0 n0 (i64s l0)) (b0 : Hid (I64s l0)) :
    Calls Try.prog 21 #[.slice A0 n0 c0] w (Makes 5 1 (mEnc l0).length (u8s (mEnc l0)) w) := by
  have R0 := Lib.hid r0
  clear r0
  go_enter Try.func21, Try.ntmps21
  go_wp2_with fail
  refine (part_ip l0 A0 n0 c0 lo0 hi0 _ h0 R0.out b0).mono ?_
  rintro e w1 ⟨v, rfl, ho, hb⟩
  have HO := Lib.hid ho
  have HB := Lib.hid hb
  clear ho hb
  go_wp2_with fail
  go_ret
  exact makes_of_own HO.out HB.out
end Go.Proofs.Ytblmdjdaiilmmaa
