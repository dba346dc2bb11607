/- ReadBytes, of the program and of the model. -/
import Derived.Test.YtblmdjdaiilmmaaRdB
import Derived.IntWalk
namespace Go.Proofs.Ytblmdjdaiilmmaa
open Go Go.ChangeShapes Go.WideShapes Go.ChangeAt Go.RowKit Go.Lib
set_option linter.unusedVariables false
set_option linter.unusedSimpArgs false
set_option maxRecDepth 100000
def mRBok (l : List Int) (o m : Int) : Bool := (mReadU l o).ok && decide ((mReadU l o).n ≤ m) && decide ((mReadU l o).to + (mReadU l o).n ≤ (l.length : Int))
def mRBl (l : List Int) (o m : Int) : List Int := if mRBok l o m = true then (l.drop (mReadU l o).to.toNat).take (mReadU l o).n.toNat else []
def mRBto (l : List Int) (o m : Int) : Int := if mRBok l o m = true then (mReadU l o).to + (mReadU l o).n else 0
theorem mRBl_len (l : List Int) (o m : Int) : (mRBl l o m).length ≤ l.length := by
  unfold mRBl
  split
  · simp; omega
  · simp
def MakesVV (E : TypeId) (size n : Nat) (xs : List Value) (u v : Value) (w : World) (e : Ending) (w' : World) : Prop :=
  ∃ A c, e = .returned (.tuple #[.slice A n c, u, v]) ∧ Fr w' w.heap.size w'.heap.size E size A n c xs ∧ Below w.heap.size w w'
def BytesQ (l : List Int) (o m : Int) (g : Nat) (w : World) (e : Ending) (w' : World) : Prop :=
  w.grownBy w' (some g) ∧ ((mRBok l o m = true ∧ (∃ A c, e = .returned (.tuple #[.slice A (mRBl l o m).length c, .bool true]) ∧ Fr w' w.heap.size w'.heap.size 5 1 A (mRBl l o m).length c (u8s (mRBl l o m))) ∧ ∃ s, BoxAt w' g 211 #[s, .int .i64 (mRBto l o m)]) ∨
    (mRBok l o m = false ∧ ∃ v, e = .returned (.tuple #[v, .bool false])))
theorem cgrown_new {w w1 w2 : World} {g : Nat} (h : w.grownBy w1 (some g)) (k : Below w1.heap.size w1 w2) : w.grownBy w2 (some g) :=
  ⟨k.os.trans h.os, k.tape.trans h.tape, k.output.trans h.output, Nat.le_trans h.size k.size, fun i hi hne => (k.block i (Nat.lt_of_lt_of_le hi h.size)).trans (h.block i hi hne)⟩
theorem rd_grown {w w' : World} {g b off n : Nat} {xs : List Value} (h : Rd w b (b + 1) 1 (some ⟨b, off, none⟩) n xs) (hg : w.grownBy w' (some g)) (hb : b ≠ g) : Rd w' b (b + 1) 1 (some ⟨b, off, none⟩) n xs :=
  h.keep fun i h1 h2 h3 => hg.block i h3 (by intro e; injection e with e; omega)
theorem bytes_empty (g cap : Nat) (A : Option Addr) (m : Int) (w : World) (hc : BoxAt w g 211 #[.slice A 0 cap, .int .i64 0]) :
    Calls Try.prog 81 #[.pointer (some ⟨g, 0, none⟩), .int .i64 m] w (fun e w' => w.grownBy w' (some g) ∧ ∃ v, e = .returned (.tuple #[v, .bool false])) := by
  have HU := Lib.hid (uvarint_empty g cap A w hc)
  clear hc
  go_enter Try.func81, Try.ntmps81
  go_wp2_with fail
  refine HU.out.mono ?_
  rintro e w1 ⟨rfl, hg⟩
  have HG := Lib.hid hg
  clear hg
  go_wp2_with fail
  go_ret2
  exact ⟨HG.out, _, rfl⟩
set_option maxHeartbeats 8000000 in
theorem cbytes_any (l : List Int) (b off n cap lo hi g o : Nat) (m : Int) (w : World) (hn : n ≤ 1048576) (hcap : n ≤ cap) (ho : o ≤ n) (hr : Rd w lo hi 1 (some ⟨b, off, none⟩) n (u8s l)) (hu : Hid (U8s l)) (hbg : b ≠ g) (hc : CurP w g b off n cap o) :
    Calls Try.prog 81 #[.pointer (some ⟨g, 0, none⟩), .int .i64 m] w (BytesQ l o m g w) := by
  have HU := Lib.hid (uvarint_any l b off n cap lo hi g o w hn hcap ho hr hu hbg hc)
  have HL := Lib.hid (show l.length = n by simpa using hr.1)
  have HR := Lib.hid (rd_here hr)
  have hF := mRd_fit l o 6 0 0 (by omega) (by omega)
  have hT := mRd_to l o 6 0 0
  have hM : mReadU l o = mRd l o 6 0 0 := by unfold mReadU; rw [if_neg (by omega)]; rfl
  clear hr hc
  generalize mRd l o 6 0 0 = R at HU hF hT hM
  obtain ⟨rn, rt, rok⟩ := R
  cases rok with
  | false =>
    have HNO := Lib.hid (show mRBok l o m = false by simp [mRBok, hM])
    clear hF hT hM
    go_enter Try.func81, Try.ntmps81
    go_wp2_with fail
    refine HU.out.mono ?_
    rintro e w1 ⟨v, rfl, hv, hg⟩
    have HG := Lib.hid hg
    clear hg hv
    go_wp2_with fail
    go_ret2
    exact ⟨HG.out, Or.inr ⟨HNO.out, _, rfl⟩⟩
  | true =>
    obtain ⟨f0, f1, f2⟩ := hF rfl
    dsimp only at f0 f1 f2 hT
    obtain ⟨cnt, rfl⟩ := Int.eq_ofNat_of_zero_le f0
    obtain ⟨k, rfl⟩ := Int.eq_ofNat_of_zero_le hT
    have hkn : k ≤ n := by have := HL.out; omega
    have hbig : cnt ≤ 1000000000000 := by omega
    clear hF hT f0 f1 f2
    by_cases h1 : (cnt : Int) ≤ m
    · have h1' : ¬ m < (cnt : Int) := by omega
      have h1b : decide (m < (cnt : Int)) = false := by simp; omega
      by_cases h2 : k + cnt ≤ n
      · have HOK := Lib.hid (show mRBok l o m = true by simp [mRBok, hM, h1]; have := HL.out; omega)
        have HXS := Lib.hid (show mRBl l o m = (l.drop k).take cnt by unfold mRBl; rw [if_pos HOK.out, hM]; simp)
        have HTO := Lib.hid (show mRBto l o m = ((k + cnt : Nat) : Int) by unfold mRBto; rw [if_pos HOK.out, hM]; simp)
        have HXL := Lib.hid (show (mRBl l o m).length = cnt by rw [HXS.out]; simp; have := HL.out; omega)
        clear hM
        by_cases hz : cnt = 0
        · subst hz
          go_enter Try.func81, Try.ntmps81
          go_wp2_with fail
          refine HU.out.mono ?_
          rintro e w1 ⟨v, rfl, hv, hg⟩
          obtain ⟨rfl, hc1⟩ := hv rfl
          have HTk := take_zero g b off n cap k w1 (by omega) hcap (by simpa using hc1) hkn
          have HG := Lib.hid hg
          clear hg hv hc1
          replace HTk := Lib.hid HTk
          go_wp2_with fail
          refine HTk.out.mono ?_
          rintro e w2 ⟨⟨A2, rfl⟩, hc2, hg2⟩
          have HG2 := Lib.hid (grown_both' HG.out hg2)
          have HC2 := Lib.hid hc2
          have HCl := Lib.hid (clone_byte [] A2 0 0 0 0 w2 (by omega) (rd_zero _ _ _ _))
          clear hc2 hg2
          go_wp2_with fail
          refine HCl.out.mono ?_
          rintro e w3 ⟨v3, rfl, ho3, hb3⟩
          obtain ⟨A3, c3, rfl, hF3⟩ := fr_of_own ho3
          have HG3 := Lib.hid (cgrown_new HG2.out hb3)
          have HC3 := Lib.hid (BoxAt.new HC2.out hb3)
          have HF3 := Lib.hid (hF3.mono HG2.out.size (Nat.le_refl _))
          clear hb3 ho3 hF3
          go_wp2_with fail
          go_ret2
          exact ⟨HG3.out, Or.inl ⟨HOK.out, ⟨A3, c3, by rw [HXL.out]; rfl, by rw [HXL.out, HXS.out]; simpa using HF3.out⟩, _, by rw [HTO.out]; exact HC3.out⟩⟩
        · have hm0 : 0 < cnt := by omega
          go_enter Try.func81, Try.ntmps81
          go_wp2_with fail
          refine HU.out.mono ?_
          rintro e w1 ⟨v, rfl, hv, hg⟩
          obtain ⟨rfl, hc1⟩ := hv rfl
          have HTk := take_many g b off n cap k cnt w1 (by omega) hcap (by simpa using hc1) h2 hm0
          have HR1 := Lib.hid (rd_grown HR.out hg hbg)
          have HG := Lib.hid hg
          clear hg hv hc1
          replace HTk := Lib.hid HTk
          go_wp2_with fail
          refine HTk.out.mono ?_
          rintro e w2 ⟨rfl, hc2, hg2⟩
          have HR2 := Lib.hid (rd_sub (rd_grown HR1.out hg2 hbg) h2)
          have HG2 := Lib.hid (grown_both' HG.out hg2)
          have HC2 := Lib.hid hc2
          have HCl := Lib.hid (clone_byte ((l.drop k).take cnt) (some ⟨b, off + k, none⟩) cnt cnt _ _ w2 (by omega) HR2.out)
          clear hc2 hg2
          go_wp2_with fail
          refine HCl.out.mono ?_
          rintro e w3 ⟨v3, rfl, ho3, hb3⟩
          obtain ⟨A3, c3, rfl, hF3⟩ := fr_of_own ho3
          have HG3 := Lib.hid (cgrown_new HG2.out hb3)
          have HC3 := Lib.hid (BoxAt.new HC2.out hb3)
          have HF3 := Lib.hid (hF3.mono HG2.out.size (Nat.le_refl _))
          clear hb3 ho3 hF3
          go_wp2_with fail
          go_ret2
          exact ⟨HG3.out, Or.inl ⟨HOK.out, ⟨A3, c3, by rw [HXL.out]; rfl, by rw [HXL.out, HXS.out]; exact HF3.out⟩, _, by rw [HTO.out]; exact HC3.out⟩⟩
      · have HNO := Lib.hid (show mRBok l o m = false by simp [mRBok, hM]; intro; have := HL.out; omega)
        clear hM
        have hin : inR (cnt : Int) 0 ((n : Int) - k) = false := by rw [Bool.eq_false_iff]; intro h; have := inR_true.1 h; omega
        go_enter Try.func81, Try.ntmps81
        go_wp2_with fail
        refine HU.out.mono ?_
        rintro e w1 ⟨v, rfl, hv, hg⟩
        obtain ⟨rfl, hc1⟩ := hv rfl
        have HTk := Lib.hid (take_bad g b off n cap k (cnt : Int) w1 (by omega) (by simpa using hc1) (by omega) hin)
        have HG := Lib.hid hg
        clear hg hv hc1 hin
        go_wp2_with fail
        refine HTk.out.mono ?_
        rintro e w2 ⟨rfl, hc2, hg2⟩
        have HG2 := Lib.hid (grown_both' HG.out hg2)
        have HCl := Lib.hid (clone_byte [] none 0 0 0 0 w2 (by omega) (rd_zero _ _ _ _))
        clear hc2 hg2
        go_wp2_with fail
        refine HCl.out.mono ?_
        rintro e w3 ⟨v3, rfl, ho3, hb3⟩
        have HG3 := Lib.hid (cgrown_new HG2.out hb3)
        clear hb3 ho3
        go_wp2_with fail
        go_ret2
        exact ⟨HG3.out, Or.inr ⟨HNO.out, _, rfl⟩⟩
    · have HNO := Lib.hid (show mRBok l o m = false by simp [mRBok, hM]; omega)
      have h1' : m < (cnt : Int) := by omega
      clear hM h1
      go_enter Try.func81, Try.ntmps81
      go_wp2_with fail
      refine HU.out.mono ?_
      rintro e w1 ⟨v, rfl, hv, hg⟩
      obtain ⟨rfl, hc1⟩ := hv rfl
      have HG := Lib.hid hg
      clear hg hv hc1
      go_wp2_with fail
      go_ret2
      exact ⟨HG.out, Or.inr ⟨HNO.out, _, rfl⟩⟩
end Go.Proofs.Ytblmdjdaiilmmaa
