/- AppendUvarint, of the program and of the model. -/
import Derived.Test.YtblmdjdaiilmmaaCloneB
import Derived.Test.YtblmdjdaiilmmaaSlB
import Derived.Test.YtblmdjdaiilmmaaIn
import Derived.Laws.BitsAllLaws
import Derived.Laws.BitsLemmas
import Derived.Deep.RegionWith
namespace Go.Proofs.Ytblmdjdaiilmmaa
open Go Go.ChangeShapes Go.WideShapes Go.ChangeAt Go.RowKit Go.Lib
set_option linter.unusedVariables false
set_option maxRecDepth 100000

/-- The groups of seven bits of a number, the least first. -/
def uv (n : Nat) : List Int := if n < 128 then [(n : Int)] else ((n % 128 + 128 : Nat) : Int) :: uv (n / 128)
termination_by n
decreasing_by omega
theorem uv_small {n : Nat} (h : n < 128) : uv n = [(n : Int)] := by rw [uv, if_pos h]
theorem uv_big {n : Nat} (h : ¬ n < 128) : uv n = ((n % 128 + 128 : Nat) : Int) :: uv (n / 128) := by rw [uv, if_neg h]
theorem uv_len : ∀ (k n : Nat), n < 128 ^ k → (uv n).length ≤ k + 1
  | 0, n, h => by rw [uv_small (by simp at h; omega)]; simp
  | k + 1, n, h => by
    by_cases h1 : n < 128
    · rw [uv_small h1]; simp
    · rw [uv_big h1, List.length_cons]
      have := uv_len k (n / 128) (Nat.div_lt_of_lt_mul (by rw [Nat.pow_succ] at h; omega))
      omega
theorem uv_len6 {n : Nat} (h : n ≤ 1000000000000) : (uv n).length ≤ 7 := uv_len 6 n (by omega)
def mAppU (b : List Int) (n : Int) : List Int := if inR n 0 1000000000000 then b ++ uv n.toNat else b
theorem mAppU_len (b : List Int) (n : Int) : (mAppU b n).length ≤ b.length + 7 := by
  unfold mAppU
  split
  · rename_i h
    have := inR_true.1 h
    have := uv_len6 (n := n.toNat) (by omega)
    rw [List.length_append]; omega
  · omega
theorem or128 (m : Nat) : bits .or .u8 ((m : Int) % 256) 128 = ((m % 128 + 128 : Nat) : Int) := by
  have h : ∀ x : Fin 256, bits .or .u8 ((x.val : Nat) : Int) 128 = ((x.val % 128 + 128 : Nat) : Int) := by decide
  have := h ⟨m % 256, Nat.mod_lt _ (by omega)⟩
  simp only at this
  rw [show ((m : Int) % 256) = ((m % 256 : Nat) : Int) by omega, this]; congr 1; omega

/-- A call that appends to what is known of the slice. -/
def Ext (base n' : Nat) (xs' : List Value) (w : World) (e : Ending) (w' : World) : Prop :=
  ∃ v, e = .returned v ∧ w'.ownsRow base 5 1 v n' xs' ∧ Below base w w'

theorem uvp_append (x : Int) (v : Value) (n base : Nat) (b : List Int) (w : World) (hn : n ≤ 17592186044416) (hown : w.ownsRow base 5 1 v n (u8s b)) (hbase : base ≤ w.heap.size) (wx : (Lit.int .i64 x).wf = true) :
    Calls Try.prog 229 #[.int .i64 x, v] w (Ext base (mAppU b x).length (u8s (mAppU b x)) w) := by
  have HO := Lib.hid hown
  have HLb := Lib.hid (show b.length = n by simpa using hown.1)
  clear hown
  by_cases hx : inR x 0 1000000000000 = true
  · have hr := inR_true.1 hx
    obtain ⟨m, rfl⟩ := Int.eq_ofNat_of_zero_le hr.1
    have hm : m ≤ 1000000000000 := by omega
    have HE := Lib.hid (show mAppU b (m : Int) = b ++ uv m by unfold mAppU; rw [if_pos hx]; simp)
    have HLu := Lib.hid (uv_len6 hm)
    obtain ⟨tot, htot⟩ : ∃ t : List Int, t = b ++ uv m := ⟨_, rfl⟩
    rw [HE.out, ← htot]
    have HT := Lib.hid htot
    have HTL := Lib.hid (show tot.length ≤ n + 7 by rw [htot, List.length_append]; have := HLb.out; have := HLu.out; omega)
    clear hr htot HE HLu
    go_enter Try.func229, Try.ntmps229
    go_wp2_with (go_at_call 140; refine (impl_in _ _ _ _).mono ?_; rintro e w1 ⟨rfl, rfl⟩)
    go_loopw [0, 1] (fun q o wr => ∃ (k : Nat) (cur : List Int), k ≤ 1000000000000 ∧ q = .int .i64 (k : Int) ∧ cur ++ uv k = tot ∧ wr.ownsRow base 5 1 o cur.length (u8s cur) ∧ Below base w wr) (fun q _ _ => (intOf q).toNat)
    case atStart => exact ⟨m, b, hm, rfl, HT.out.symm, by rw [HLb.out]; exact HO.out, Below.refl _ _⟩
    case round =>
      obtain ⟨k, cur, hk, rfl, hcat, hown, hb⟩ := hrel
      have HB := Lib.hid hb
      have HS := Lib.hid (Nat.le_trans hbase hb.size)
      have HO1 := Lib.hid hown
      have HC := Lib.hid hcat
      have HN := Lib.hid (show cur.length ≤ n + 7 by have := congrArg List.length hcat; simp only [List.length_append] at this; have := HTL.out; omega)
      clear hb hown hcat
      by_cases hlt : k < 128
      · have hd : decide ((128 : Int) ≤ k) = false := by simp; omega
        have HU := Lib.hid (show u8s cur ++ (#[Value.int .u8 (k : Int)]).toList = u8s tot by rw [← HC.out, uv_small hlt]; simp)
        have HUL := Lib.hid (show cur.length + 1 = tot.length by rw [← HC.out, uv_small hlt]; simp)
        go_wp2_with (at_builtin; refine wp_app_lit rfl _ _ _ rfl base 5 (.int .u8 0) 1 1 Try.underlying22 info_u8 rfl (by decide) _ _ _ rfl HO1.out #[.int .u8 (k : Int)] 1 1 _ rfl rfl rfl (ints_oneCell .u8 [(k : Int)]) (by have := HN.out; unfold maxLen; omega) (by have := HN.out; omega) HS.out ?_; intro v1 w1 ho1 hb1; rw [HU.out, HUL.out] at ho1; have HO2 := Lib.hid ho1; have HB2 := Lib.hid (HB.out.trans hb1); clear ho1 hb1)
        go_ret
        exact ⟨_, rfl, HO2.out, HB2.out⟩
      · have hd : decide ((128 : Int) ≤ k) = true := by simp; omega
        have HUC := Lib.hid (show (cur ++ [((k % 128 + 128 : Nat) : Int)]) ++ uv (k / 128) = tot by rw [← HC.out, uv_big hlt]; simp)
        have HU := Lib.hid (show u8s cur ++ (#[Value.int .u8 (bits .or .u8 ((k : Int) % 256) 128)]).toList = u8s (cur ++ [((k % 128 + 128 : Nat) : Int)]) by rw [or128]; simp)
        have HUL := Lib.hid (show cur.length + 1 = (cur ++ [((k % 128 + 128 : Nat) : Int)]).length by simp)
        have hsh := Lib.hid (show (k : Int) / 128 = ((k / 128 : Nat) : Int) by omega)
        go_wp2_with (at_builtin; refine wp_app_lit rfl _ _ _ rfl base 5 (.int .u8 0) 1 1 Try.underlying22 info_u8 rfl (by decide) _ _ _ rfl HO1.out #[.int .u8 (bits .or .u8 ((k : Int) % 256) 128)] 1 1 _ rfl rfl rfl (ints_oneCell .u8 [_]) (by have := HN.out; unfold maxLen; omega) (by have := HN.out; omega) HS.out ?_; intro v1 w1 ho1 hb1; rw [HU.out, HUL.out] at ho1; have HO2 := Lib.hid ho1; have HB2 := Lib.hid (HB.out.trans hb1); clear ho1 hb1)
        go_roundw
        case rel => exact ⟨k / 128, _, by omega, by rw [← hsh.out], HUC.out, HO2.out, HB2.out⟩
        case measure => simp [intOf]; omega
  · have HE := Lib.hid (show mAppU b x = b by unfold mAppU; rw [if_neg hx])
    have hx : inR x 0 1000000000000 = false := by simpa using hx
    rw [HE.out, HLb.out]
    go_enter Try.func229, Try.ntmps229
    go_wp2_with (go_at_call 140; refine (impl_in _ _ _ _).mono ?_; rintro e w1 ⟨rfl, rfl⟩)
    go_ret
    exact ⟨_, rfl, HO.out, Below.refl _ _⟩
theorem uv_ahead (d : Nat) (x : Int) (w : World) : (nilAhead (d + 1) 277 (.int .i64 x) "loop.example/g03001/impl.appendTo").run Try.prog w = .ok (some false) w := by kernel_rfl
theorem uv_method (d : Nat) (x : Int) (w : World) : (method (d + 1) 277 (.int .i64 x) "loop.example/g03001/impl.appendTo").run Try.prog w = .ok (229, .int .i64 x) w := by kernel_rfl
theorem part_uv (x : Int) (l : List Int) (A : Option Addr) (n c lo hi : Nat) (w : World) (hn : n ≤ 17592186044) (hr : Rd w lo hi 1 A n (u8s l)) (wx : (Lit.int .i64 x).wf = true) :
    Calls Try.prog 78 #[.slice A n c, .iface 277 (.int .i64 x)] w (MakesO 5 1 (mAppU l x).length (u8s (mAppU l x)) w) := by
  have HR := Lib.hid hr
  have WX := Lib.hid wx
  clear hr wx
  have na := uv_ahead
  have nm := uv_method
  go_enter Try.func78, Try.ntmps78
  go_wp2_with fail
  go_region_with (first
    | (go_at_call 139; refine (clone_byte l _ n c lo hi w.drew (by omega) (show Rd w.drew lo hi 1 A n (u8s l) from HR.out)).mono ?_; rintro e w1 ⟨cv, rfl, hco, hcb⟩; have HCO := Lib.hid (show w1.ownsRow w.heap.size 5 1 cv n (u8s l) from hco); have HCB := Lib.hid (show Below w.heap.size w w1 from ⟨hcb.os, hcb.tape, hcb.output, hcb.size, hcb.block⟩); clear hco hcb)
    | (go_at_call 229; refine (uvp_append x cv n w.heap.size l w1 (by omega) HCO.out HCB.out.size WX.out).mono ?_; rintro e w2 ⟨rv, rfl, hco, hcb⟩; have HRO := Lib.hid hco; have HRB := Lib.hid (HCB.out.trans hcb); clear hco hcb))
  all_goals
    go_wp2_with fail
    go_ret
    exact ⟨_, rfl, HRO.out, HRB.out⟩
theorem and127 (m : Nat) (h : m ≤ 1000000000000) : bits .and .i64 (m : Int) 127 = ((m % 128 : Nat) : Int) := by
  have h2 : bits .and .i64 (m : Int) 127 = IntKind.i64.wrap ((BitVec.ofInt 64 (m : Int) &&& BitVec.ofInt 64 (127 : Int)).toNat : Int) := rfl
  have h3 : (BitVec.ofInt 64 (m : Int)).toNat = m := by
    rw [BitVec.ofInt_natCast, BitVec.toNat_ofNat]; exact Nat.mod_eq_of_lt (by omega)
  have h4 : (BitVec.ofInt 64 (127 : Int)).toNat = 2 ^ 7 - 1 := by decide
  rw [h2, BitVec.toNat_and, h3, h4, Nat.and_two_pow_sub_one_eq_mod, IntKind.wrap_i64]
  omega
theorem or128i (k : Nat) (h : k < 128) : bits .or .i64 (k : Int) 128 = ((k + 128 : Nat) : Int) := by
  have h' : ∀ x : Fin 128, bits .or .i64 ((x.val : Nat) : Int) 128 = ((x.val + 128 : Nat) : Int) := by decide
  exact h' ⟨k, h⟩
end Go.Proofs.Ytblmdjdaiilmmaa
