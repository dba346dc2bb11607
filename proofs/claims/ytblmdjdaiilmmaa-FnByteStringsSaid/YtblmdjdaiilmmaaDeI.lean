/- DecodeInts of the program: the cursor's ints. -/
import Derived.Test.YtblmdjdaiilmmaaRdC
import Derived.Test.YtblmdjdaiilmmaaSlI
import Derived.Deep.LoopGhost
namespace Go.Proofs.Ytblmdjdaiilmmaa
open Go Go.ChangeShapes Go.WideShapes Go.ChangeAt Go.RowKit Go.Lib
set_option linter.unusedVariables false
set_option linter.unusedSimpArgs false
set_option maxRecDepth 100000
structure DecR where
  xs : List Int
  to : Int
  ok : Bool
def noD : DecR := ⟨[], 0, false⟩
def mDec (l : List Int) : Nat → Int → List Int → DecR
  | 0, o, acc => ⟨acc, o, true⟩
  | m + 1, o, acc => if (mReadU l o).ok = true then mDec l m (mReadU l o).to (acc ++ [(mReadU l o).n]) else noD
def mDI (l : List Int) (o c : Int) : DecR := if inR c 0 100 = true ∧ inR o 0 l.length = true then mDec l c.toNat o [] else noD
theorem mDec_len (l : List Int) : ∀ (m : Nat) (o : Int) (acc : List Int), (mDec l m o acc).xs.length ≤ acc.length + m := by
  intro m
  induction m with
  | zero => intro o acc; exact Nat.le_refl _
  | succ m ih =>
    intro o acc
    unfold mDec
    split
    · exact Nat.le_trans (ih _ _) (by simp; omega)
    · simp [noD]
theorem mDI_len (l : List Int) (o c : Int) : (mDI l o c).xs.length ≤ 100 := by
  unfold mDI
  split
  · rename_i h
    have := mDec_len l c.toNat o []
    have := inR_true.1 h.1
    simp at *; omega
  · simp [noD]
theorem mDec_ok {l : List Int} {m : Nat} {o : Int} {acc : List Int} {R : RdU} (h : mReadU l o = R) (hk : R.ok = true) : mDec l (m + 1) o acc = mDec l m R.to (acc ++ [R.n]) := by
  rw [mDec, h, if_pos hk]
theorem mDec_no {l : List Int} {m : Nat} {o : Int} {acc : List Int} {R : RdU} (h : mReadU l o = R) (hk : R.ok = false) : mDec l (m + 1) o acc = noD := by
  rw [mDec, h, if_neg (by rw [hk]; decide)]
theorem mReadU_fit (l : List Int) (o : Nat) : (mReadU l o).ok = true → 0 ≤ (mReadU l o).to ∧ (mReadU l o).to ≤ l.length := by
  have e : mReadU l (o : Int) = mRd l o 6 0 0 := by unfold mReadU; rw [if_neg (by omega)]; rfl
  rw [e]
  exact fun h => ⟨mRd_to l o 6 0 0, (mRd_fit l o 6 0 0 (by omega) (by omega) h).2.2⟩
theorem down_grown {w w' : World} {base g size n : Nat} {e : TypeId} {v : Value} {xs : List Value} (h : w.ownsRow base e size v n xs) (hg : w.grownBy w' (some g)) (hlt : g < base) : w'.ownsRow base e size v n xs := by
  refine ⟨h.1, ?_⟩
  rcases h.2 with h0 | ⟨r, cap, cur, hv, hr, hh, rest⟩
  · exact .inl h0
  · exact .inr ⟨r, cap, cur, hv, hr, (hg.block r (Array.getElem?_eq_some_iff.1 hh).1 (by intro e; injection e with e; omega)).trans hh, rest⟩
theorem grown_below2 {w w1 w2 : World} {g : Nat} (h : w.grownBy w1 (some g)) (k : Below w.heap.size w1 w2) : w.grownBy w2 (some g) :=
  ⟨k.os.trans h.os, k.tape.trans h.tape, k.output.trans h.output, Nat.le_trans h.size k.size, fun i hi hne => (k.block i hi).trans (h.block i hi hne)⟩
theorem info_intD : (Try.prog.info? 3).map (fun i => (i.zero, i.size, i.bytes)) = some (some (.int .i64 0), 1, 8) := by kernel_rfl
theorem one_intD (z : Int) : ∀ u ∈ (#[Value.int .i64 z]).toList, u.oneCell' = true := by
  intro u hu
  simp only [List.mem_singleton] at hu
  subst hu
  rfl
def IntsQ (D : DecR) (g : Nat) (w : World) (e : Ending) (w' : World) : Prop :=
  w.grownBy w' (some g) ∧ ((D.ok = true ∧ (∃ A c, e = .returned (.tuple #[.slice A D.xs.length c, .bool true]) ∧ Fr w' w.heap.size w'.heap.size 3 1 A D.xs.length c (i64s D.xs)) ∧ ∃ s, BoxAt w' g 211 #[s, .int .i64 D.to]) ∨
    (D.ok = false ∧ ∃ v, e = .returned (.tuple #[v, .bool false])))
set_option maxHeartbeats 8000000 in
theorem ints_any (l : List Int) (b off n cap lo hi g o cnt : Nat) (w : World) (hn : n ≤ 1048576) (hcap : n ≤ cap) (ho : o ≤ n) (hcnt : cnt ≤ 100) (hr : Rd w lo hi 1 (some ⟨b, off, none⟩) n (u8s l)) (hu : Hid (U8s l)) (hbg : b ≠ g) (hc : CurP w g b off n cap o) :
    Calls Try.prog 84 #[.pointer (some ⟨g, 0, none⟩), .int .i64 cnt] w (IntsQ (mDec l cnt o []) g w) := by
  have HL := Lib.hid (show l.length = n by simpa using hr.1)
  have HR := Lib.hid (rd_here hr)
  have HC := Lib.hid hc
  have hgl : g < w.heap.size := BoxAt.lt hc
  have hin : inR (cnt : Int) 0 100 = true := inR_true.2 (by omega)
  have CI := Lib.hid (fun W => (by have := impl_in (cnt : Int) 0 100 W; rwa [hin] at this : Calls Try.prog 140 #[.int .i64 cnt, .int .i64 0, .int .i64 100] W fun e w' => e = .returned (.bool true) ∧ W = w'))
  generalize hD : mDec l cnt (o : Int) [] = D
  have HD := Lib.hid hD
  clear hD hin hr hc
  go_enter Try.func84, Try.ntmps84
  go_wp2_with (go_at_call 140; refine Calls.mono (CI.out _) ?_; rintro e w1 ⟨rfl, rfl⟩)
  go_loopg [6, 14] cnt (fun gg v i wr => ∃ (j p : Nat) (acc : List Int), j ≤ cnt ∧ cnt - j ≤ gg ∧ i = .int .i64 j ∧ p ≤ n ∧ Hid (CurP wr g b off n cap p) ∧ Hid (wr.ownsRow w.heap.size 3 1 v j (i64s acc)) ∧ Hid (acc.length = j) ∧ Hid (mDec l (cnt - j) p acc = D) ∧ Hid (w.grownBy wr (some g)))
  case atStart => exact ⟨0, o, [], Nat.zero_le _, by omega, rfl, ho, Lib.hid (BoxAt.alloc_ HC.out _), Lib.hid (by simpa using World.ownsRow_lit (base := w.heap.size) (e := 3) (size := 1) w #[] 0 (Nat.le_refl _) (by unfold maxLen; omega) rfl), Lib.hid rfl, HD, Lib.hid (grown_below2 (World.grownBy.refl w _) ((Below.refl _ _).alloc (Nat.le_refl _) _))⟩
  case round =>
    obtain ⟨j, p, acc, hj, hgg, rfl, hp, HCr, HOr, HA, HDr, HG⟩ := hrel
    by_cases hlt : j < cnt
    · have HU := Lib.hid (uvarint_any l b off n cap b (b + 1) g p wr hn hcap hp (rd_grown HR.out HG.out hbg) hu hbg HCr.out)
      have hM : mReadU l p = mRd l p 6 0 0 := by unfold mReadU; rw [if_neg (by omega)]; rfl
      have hF := mReadU_fit l p
      have e1 : cnt - j = (cnt - (j + 1)) + 1 := by omega
      have hS := HDr.out
      rw [e1] at hS
      have hok := mDec_ok (m := cnt - (j + 1)) (acc := acc) hM
      have hno := mDec_no (m := cnt - (j + 1)) (acc := acc) hM
      rw [hS] at hok hno
      rw [hM] at hF
      clear hM hS e1
      generalize mRd l p 6 0 0 = R at HU hok hno hF
      obtain ⟨rn, rt, rok⟩ := R
      cases rok with
      | false =>
        have HE := Lib.hid (hno rfl)
        clear hok hno hF
        go_wp2_with fail
        refine HU.out.mono ?_
        rintro e w1 ⟨v, rfl, hv, hg⟩
        have HG1 := Lib.hid (grown_both' HG.out hg)
        clear hg hv
        go_wp2_with fail
        go_ret2
        exact ⟨HG1.out, Or.inr ⟨by rw [HE.out]; rfl, _, rfl⟩⟩
      | true =>
        have HE := Lib.hid (hok rfl)
        obtain ⟨f1, f2⟩ := hF rfl
        dsimp only at f1 f2 HE
        obtain ⟨k, rfl⟩ := Int.eq_ofNat_of_zero_le f1
        have hkn : k ≤ n := by have := HL.out; omega
        clear hok hno hF f1 f2
        go_wp2_with fail
        refine HU.out.mono ?_
        rintro e w1 ⟨z, rfl, hv, hg⟩
        obtain ⟨rfl, hc1⟩ := hv rfl
        have HC1 := Lib.hid (show CurP w1 g b off n cap k by simpa using hc1)
        have HG1 := Lib.hid (grown_both' HG.out hg)
        have HO1 := Lib.hid (down_grown HOr.out hg hgl)
        have HS1 := Lib.hid HG1.out.size
        clear hg hv hc1
        go_wp2_with (at_builtin; refine wp_app_lit rfl _ _ _ rfl w.heap.size 3 (.int .i64 0) 1 8 Try.underlying30 info_intD rfl (by decide) _ _ _ rfl HO1.out #[.int .i64 z] 1 1 _ rfl (by simp) rfl (one_intD _) (by unfold maxLen; omega) (by omega) (by have := HS1.out; first | omega | (simp <;> omega)) ?_; intro v2 w2 ho2 hb2)
        have HO2 := Lib.hid (show w2.ownsRow w.heap.size 3 1 v2 (j + 1) (i64s (acc ++ [z])) by simpa using ho2)
        have HC2 := Lib.hid (show CurP w2 g b off n cap k from BoxAt.keep HC1.out (hb2.block _ hgl))
        have HG2 := Lib.hid (grown_below2 HG1.out hb2)
        clear ho2 hb2
        go_wp2_with fail
        go_roundg (cnt - (j + 1))
        case measure => omega
        case rel => exact ⟨j + 1, k, acc ++ [z], by omega, by omega, by go_num, hkn, HC2, HO2, Lib.hid (by simp [HA.out]), Lib.hid HE.out.symm, HG2⟩
    · obtain rfl : j = cnt := by omega
      have HE := Lib.hid (show D = ⟨acc, p, true⟩ by have := HDr.out; rw [Nat.sub_self] at this; exact this.symm)
      obtain ⟨A1, c1, hv1, hF1⟩ := fr_of_own HOr.out
      have HF1 := Lib.hid (hF1.mono (Nat.le_refl _) (Nat.le_refl _))
      have HV1 := Lib.hid hv1
      clear hF1 hv1
      go_wp2_with fail
      go_ret2
      rw [HV1.out, HE.out]
      exact ⟨HG.out, Or.inl ⟨rfl, ⟨A1, c1, by rw [HA.out]; rfl, by rw [HA.out]; exact HF1.out⟩, _, HCr.out⟩⟩
end Go.Proofs.Ytblmdjdaiilmmaa
