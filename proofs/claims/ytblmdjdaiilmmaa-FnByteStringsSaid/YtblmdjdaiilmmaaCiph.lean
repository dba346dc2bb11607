/- For the law of the cipher: the draws, sameBytes, and that each stream undoes the other. -/
import Derived.Test.YtblmdjdaiilmmaaCryptS
import Derived.Test.YtblmdjdaiilmmaaDraw
namespace Go.Proofs.Ytblmdjdaiilmmaa
open Go Go.ChangeShapes Go.WideShapes Go.ChangeAt Go.RowKit Go.Lib
set_option linter.unusedVariables false
set_option maxRecDepth 100000

theorem mCry_u8 (key f : Int) (l : List Int) : U8s (mCry key f l) := by
  intro z hz
  unfold mCry at hz
  rw [List.mem_mapIdx] at hz
  obtain ⟨i, h, rfl⟩ := hz
  omega
theorem mCry_inv (key f : Int) (l : List Int) (h : U8s l) : mCry key (-f) (mCry key f l) = l := by
  unfold mCry
  apply List.ext_getElem
  · simp
  · intro i h1 h2
    have hz := h l[i] (List.getElem_mem h2)
    have h3 := hz.1
    have h4 := hz.2
    simp only [List.getElem_mapIdx]
    generalize l[i] = z at *
    generalize strm key i = s
    rw [Int.neg_mul]
    generalize f * s = t
    omega

theorem sb_byte (l l' : List Int) (A A' : Option Addr) (n n' c c' lo hi lo' hi' : Nat) (w : World) (hn : n ≤ 17592186044416) (hn' : n' ≤ 17592186044416) (hr : Rd w lo hi 1 A n (u8s l)) (hr' : Rd w lo' hi' 1 A' n' (u8s l')) :
    Calls Try.prog 19 #[.slice A n c, .slice A' n' c'] w (Quiet (.bool (decide (l = l'))) w) := by
  have HR := Lib.hid hr
  have HR' := Lib.hid hr'
  have HL := Lib.hid (show l.length = n by simpa using hr.1)
  have HL' := Lib.hid (show l'.length = n' by simpa using hr'.1)
  clear hr hr'
  by_cases hnn : n = n'
  · have g0 : ((n : Int) != n') = false := by simp; omega
    have HN := Lib.hid hnn
    clear hnn
    go_enter Try.func19, Try.ntmps19
    go_wp2
    go_loopw [5] (fun i wr => ∃ k : Nat, k ≤ n ∧ i = .int .i64 k ∧ l.take k = l'.take k ∧ ∃ d, wr = w.drewN d) (fun i _ => n - (intOf i).toNat)
    case atStart => exact ⟨0, Nat.zero_le _, rfl, rfl, 0, rfl⟩
    case round =>
      obtain ⟨k, hk, rfl, ht, d, rfl⟩ := hrel
      have HT := Lib.hid ht
      clear ht
      by_cases hlt : k < n
      · obtain ⟨b, off, z, rfl, _, _, hz, hc⟩ := rd_int HR.out hlt
        obtain ⟨b', off', z', rfl, _, _, hz', hc'⟩ := rd_int HR'.out (show k < n' by have := HN.out; omega)
        have hlt' : k < n' := by have := HN.out; omega
        have HZ := Lib.hid hz
        have HZ' := Lib.hid hz'
        clear hz hz'
        by_cases e : z = z'
        · have g1 : ((z : Int) != z') = false := by simp; omega
          have HE := Lib.hid (take_eq_step HT.out HZ.out HZ'.out e)
          clear e
          go_wp2
          go_quiet (fail)
          go_wp2
          go_roundw
          case rel => exact ⟨k + 1, by omega, by go_num, HE.out, _, rfl⟩
          case measure => simp [intOf]; omega
        · have g1 : ((z : Int) != z') = true := by simp; omega
          have HE := Lib.hid (ne_at HZ.out HZ'.out e)
          clear e
          go_wp2
          go_quiet (fail)
          go_wp2
          go_ret
          exact ⟨by rw [HE.out]; rfl, _, by first | exact World.drewN_drewN _ _ _ | rfl⟩
      · obtain rfl : k = n := by omega
        have HE := Lib.hid (show decide (l = l') = true by
          rw [decide_eq_true_iff]
          have := HT.out
          rw [List.take_of_length_le (by have := HL.out; omega), List.take_of_length_le (by have := HL'.out; have := HN.out; omega)] at this
          exact this)
        go_wp2
        go_ret
        exact ⟨by rw [HE.out]; rfl, _, by first | exact World.drewN_drewN _ _ _ | rfl⟩
  · have g0 : ((n : Int) != n') = true := by simp; omega
    have HE := Lib.hid (show decide (l = l') = false by
      rw [decide_eq_false_iff_not]
      rintro rfl
      have := HL.out; have := HL'.out; omega)
    clear hnn
    go_enter Try.func19, Try.ntmps19
    go_wp2
    go_ret
    exact ⟨by rw [HE.out]; rfl, 0, rfl⟩


/-- What a draw of bytes does. -/
def Bys (g : Nat) (A : Option Addr) (n cap m : Nat) (w : World) (e : Ending) (w' : World) : Prop :=
  ∃ (v : Value) (l : List Int), e = .returned v ∧ l.length ≤ m ∧ U8s l ∧ w'.ownsRow w.heap.size 5 1 v l.length (u8s l) ∧ Cur w' g A n cap ∧ w.grownBy w' (some g)
theorem own_grown {B g : Nat} {e : TypeId} {k : Nat} {v : Value} {n : Nat} {xs : List Value} {w w' : World} (h : w.ownsRow B e k v n xs) (hg : g < B) (hr : w.grownBy w' (some g)) : w'.ownsRow B e k v n xs :=
  h.kept hr (by
    cases hv : v.ownBlock with
    | none => exact .inl rfl
    | some j => exact .inr (fun h' => by injection h' with h'; have := (h.lt j hv).1; omega))
theorem cur_low {w w' : World} {g B n cap : Nat} {A : Option Addr} (h : Cur w g A n cap) (hg : g < B) (hb : Below B w w') : Cur w' g A n cap := by
  obtain ⟨hB, i, x, hi, hh⟩ := h
  exact ⟨hB.keep fun b hb' => hb.block b (by omega), i, x, hi, (hb.block g hg).trans hh⟩
theorem grown_low {w w1 w2 : World} {g B : Nat} (h : w.grownBy w1 (some g)) (hw : w.heap.size ≤ B) (hb : Below B w1 w2) : w.grownBy w2 (some g) :=
  ⟨hb.os.trans h.os, hb.tape.trans h.tape, hb.output.trans h.output, Nat.le_trans h.size hb.size, fun i hi hne => (hb.block i (by omega)).trans (h.block i hi hne)⟩
theorem bytes_any (g n cap m : Nat) (A : Option Addr) (w : World) (hn : n ≤ maxLen) (hm : m ≤ 256) (hc : Cur w g A n cap) :
    Calls Try.prog 76 #[.pointer (some ⟨g, 0, none⟩), .int .i64 m] w (Bys g A n cap m w) := by
  have HC := Lib.hid (hc.new (.cells #[] 5))
  have HLT := Lib.hid hc.lt
  clear hc
  go_enter Try.func76, Try.ntmps76
  go_wp2_with fail
  go_loopw [5, 6] (fun v i wr => ∃ (k : Nat) (l : List Int), k ≤ m ∧ l.length = k ∧ U8s l ∧ i = .int .i64 k ∧ wr.ownsRow w.heap.size 5 1 v k (u8s l) ∧ Cur wr g A n cap ∧ w.grownBy wr (some g)) (fun _ i _ => m - (intOf i).toNat)
  case atStart => exact ⟨0, [], Nat.zero_le _, rfl, (fun _ h => by cases h), rfl, World.ownsRow_lit w #[] 0 (Nat.le_refl _) (by unfold maxLen; omega) rfl, HC.out, grown_new w _ _⟩
  case round =>
    obtain ⟨k, l, hk, hl, hu, rfl, hown, hcw, hgw⟩ := hrel
    have HO := Lib.hid hown
    have HS := Lib.hid hgw.size
    have HU := Lib.hid hu
    have HLL := Lib.hid hl
    have HCW := Lib.hid hcw
    have HGW := Lib.hid hgw
    clear hown hu hl hcw hgw
    by_cases hlt : k < m
    · go_wp2_with fail
      refine (byte_any g n cap A _ hn HCW.out).mono ?_
      rintro e w1 ⟨x, hx0, hx1, rfl, hc1, hg1⟩
      have HO1 := Lib.hid (own_grown HO.out HLT.out hg1)
      have HC1 := Lib.hid hc1
      have HG1 := Lib.hid (grown_both HGW.out hg1)
      have HX := Lib.hid (show u8s l ++ (#[Value.int .u8 x]).toList = u8s (l ++ [x]) by simp)
      have hxb : U8s (l ++ [x]) := fun z hz => by
        simp only [List.mem_append, List.mem_singleton] at hz
        rcases hz with hz | rfl
        · exact HU.out z hz
        · exact ⟨hx0, hx1⟩
      have HXB := Lib.hid hxb
      clear hc1 hg1 hxb
      go_wp2_with (at_builtin; refine wp_app_lit rfl _ _ _ rfl w.heap.size 5 (.int .u8 0) 1 1 Try.underlying22 info_u8c rfl (by decide) _ _ _ rfl HO1.out #[.int .u8 x] 1 1 _ rfl (by simp) rfl (one_byte x) (by unfold maxLen; omega) (by omega) HG1.out.size ?_; intro v1 w2 ho2 hb2; have HO2 := Lib.hid ho2; have HB2 := Lib.hid hb2; clear ho2 hb2)
      go_roundw
      case rel => exact ⟨k + 1, l ++ [x], by omega, by simp [HLL.out], HXB.out, by go_num, by rw [← HX.out]; exact HO2.out, cur_low HC1.out HLT.out HB2.out, grown_low HG1.out (Nat.le_refl _) HB2.out⟩
      case measure => simp [intOf]; omega
    · obtain rfl : k = m := by omega
      go_wp2_with fail
      go_ret
      exact ⟨_, l, rfl, by rw [HLL.out]; exact Nat.le_refl _, HU.out, by rw [HLL.out]; exact HO.out, HCW.out, HGW.out⟩
/-- What the draw of a key and of bytes does. -/
def DrawnKB (m : Nat) (w : World) (e : Ending) (w' : World) : Prop :=
  ∃ (k : Int) (A : Option Addr) (c : Nat) (l : List Int), (Lit.int .i64 k).wf = true ∧ e = .returned (.tuple #[.int .i64 k, .slice A l.length c]) ∧ l.length ≤ m ∧ U8s l ∧ Rd w' w.heap.size w'.heap.size 1 A l.length (u8s l) ∧ Below w.heap.size w w'
theorem below_grown2 {w w1 w2 : World} {g : Nat} (h : Below w.heap.size w w1) (hg : w.heap.size ≤ g) (k : w1.grownBy w2 (some g)) : Below w.heap.size w w2 :=
  h.trans ⟨k.os, k.tape, k.output, k.size, fun i hi => k.block i (Nat.lt_of_lt_of_le hi h.size) (fun e => by injection e with e; omega)⟩
end Go.Proofs.Ytblmdjdaiilmmaa
