/- OpenWindow, of the program and of the model. -/
import Derived.Test.YtmdmihilhilkiaaWCopy
import Derived.Test.YtmdmihilhilkiaaIsStore
namespace Go.Proofs.Ytmdmihilhilkiaa
open Go Go.ChangeShapes Go.WideShapes Go.ChangeAt Go.RowKit Go.Lib
set_option linter.unusedVariables false
set_option linter.unusedSimpArgs false
set_option maxRecDepth 100000
def mOWp (l : List TStored) (a : Bool) : Bool := if mIsStore l = true then a else false
def noSt : List TStored := []
def mOWb (l : List TStored) : List TStored := if mIsStore l = true then l else []
theorem mOWb_len (l : List TStored) : (mOWb l).length ≤ l.length := by unfold mOWb; split <;> simp
theorem mOW_yes {l : List TStored} (a : Bool) (h : mIsStore l = true) : mOWp l a = a ∧ mOWb l = l := by unfold mOWp mOWb; rw [if_pos h, if_pos h]; exact ⟨rfl, rfl⟩
theorem mOW_no {l : List TStored} (a : Bool) (h : mIsStore l = false) : mOWp l a = false ∧ mOWb l = [] := by unfold mOWp mOWb; rw [h]; exact ⟨rfl, rfl⟩
theorem fr_none {w : World} {lo hi size : Nat} {E : TypeId} {c : Nat} {A : Option Addr} : Fr w lo hi E size A 0 c [] := ⟨by simp, fun h => absurd h (by omega)⟩

set_option maxHeartbeats 8000000 in
theorem impl_OpenWindowC (l0 : List TStored) (A0 : Option Addr) (n0 c0 lo0 hi0 : Nat) (a1 : Bool) (w : World) (h0 : n0 ≤ 1048576) (r0 : Rd w lo0 hi0 4 A0 n0 (cStored l0)) (k0 : n0 ≤ c0) (b0 : Hid (cStoredOk l0)) :
    Calls Try.prog 33 #[.slice A0 n0 c0, .bool a1] w (MakesWindow (mOWp l0 a1) (mOWb l0).length (mOWb l0) noSt.length noSt w) := by
  have HC := impl_IsStoreC l0 A0 n0 c0 lo0 hi0
  have HL := rd_len TStored.len r0 (by decide)
  have R0 := Lib.hid r0
  have HB := Lib.hid (Below.refl w.heap.size w)
  cases hq : mIsStore l0 with
  | false =>
    rw [hq] at HC
    replace HC := Lib.hid HC
    obtain ⟨e1, e2⟩ := mOW_no a1 hq
    rw [e1, e2]
    clear hq e1 e2 r0 HL
    go_enter Try.func33, Try.ntmps33
    go_wp2_with fail
    refine Calls.mono (HC.out _ h0 (R0.out.alloc _) k0 b0) ?_
    rintro e w1 ⟨rfl, hb⟩
    obtain ⟨hc1, hf1⟩ := bcell hb
    have hs1 := hb.size
    (try simp at hs1)
    replace HB := Lib.hid (show Below w.heap.size w w1 from Below.trans (by repeat (first | with_reducible exact Below.refl _ _ | (with_reducible exact HB.out) | (with_reducible refine Below.setCell ?_ (by first | omega | (simp; done) | (simp <;> omega)) _) | (with_reducible refine Below.alloc ?_ (by first | omega | (simp; done) | (simp <;> omega)) _) | (refine Below.alloc ?_ (by first | omega | (simp; done) | (simp <;> omega)) _) | (refine Below.setCell ?_ (by first | omega | (simp; done) | (simp <;> omega)) _))) (hb.mono (by first | omega | (simp; done) | (simp <;> omega))))
    have z1_0 : w.heap.size < w1.heap.size := by omega
    clear hb
    go_wp2_with fail
    exact bodyPost_ret (v := .agg #[.bool false, .slice none 0 0, .slice none 0 0]) (by simp [results, Try.results33, go_sem, hc1, z1_0]) rfl ⟨none, none, 0, w.heap.size, w.heap.size, 0, w.heap.size, w.heap.size, rfl, fr_none, fr_none, Lib.hid (by unfold SepWindow; simp <;> omega), by repeat (first | with_reducible exact Below.refl _ _ | (with_reducible exact HB.out) | (with_reducible refine Below.setCell ?_ (by first | omega | (simp; done) | (simp <;> omega)) _) | (with_reducible refine Below.alloc ?_ (by first | omega | (simp; done) | (simp <;> omega)) _) | (refine Below.alloc ?_ (by first | omega | (simp; done) | (simp <;> omega)) _) | (refine Below.setCell ?_ (by first | omega | (simp; done) | (simp <;> omega)) _))⟩
  | true =>
    rw [hq] at HC
    replace HC := Lib.hid HC
    obtain ⟨e1, e2⟩ := mOW_yes a1 hq
    rw [e1, e2, HL]
    clear hq e1 e2 r0 HL
    go_enter Try.func33, Try.ntmps33
    go_wp2_with fail
    refine Calls.mono (HC.out _ h0 (R0.out.alloc _) k0 b0) ?_
    rintro e w1 ⟨rfl, hb⟩
    obtain ⟨hc1, hf1⟩ := bcell hb
    have hs1 := hb.size
    (try simp at hs1)
    replace HB := Lib.hid (show Below w.heap.size w w1 from Below.trans (by repeat (first | with_reducible exact Below.refl _ _ | (with_reducible exact HB.out) | (with_reducible refine Below.setCell ?_ (by first | omega | (simp; done) | (simp <;> omega)) _) | (with_reducible refine Below.alloc ?_ (by first | omega | (simp; done) | (simp <;> omega)) _) | (refine Below.alloc ?_ (by first | omega | (simp; done) | (simp <;> omega)) _) | (refine Below.setCell ?_ (by first | omega | (simp; done) | (simp <;> omega)) _))) (hb.mono (by first | omega | (simp; done) | (simp <;> omega))))
    have z1_0 : w.heap.size < w1.heap.size := by omega
    clear hb
    go_wp2_with fail
    refine Calls.mono (clone_Stored l0 A0 n0 c0 lo0 hi0 _ h0 (R0.out.new (by repeat (first | with_reducible exact Below.refl _ _ | (with_reducible exact HB.out) | (with_reducible refine Below.setCell ?_ (by first | omega | (simp; done) | (simp <;> omega)) _) | (with_reducible refine Below.alloc ?_ (by first | omega | (simp; done) | (simp <;> omega)) _) | (refine Below.alloc ?_ (by first | omega | (simp; done) | (simp <;> omega)) _) | (refine Below.setCell ?_ (by first | omega | (simp; done) | (simp <;> omega)) _))))) ?_
    rintro e w2 ⟨v, rfl, ho, hb⟩
    obtain ⟨A', c', hv, hF⟩ := fr_of_own ho
    subst hv
    obtain ⟨hc2, hf2⟩ := bcell hb
    have hs2 := hb.size
    (try simp at hs2)
    replace HB := Lib.hid (show Below w.heap.size w w2 from Below.trans (by repeat (first | with_reducible exact Below.refl _ _ | (with_reducible exact HB.out) | (with_reducible refine Below.setCell ?_ (by first | omega | (simp; done) | (simp <;> omega)) _) | (with_reducible refine Below.alloc ?_ (by first | omega | (simp; done) | (simp <;> omega)) _) | (refine Below.alloc ?_ (by first | omega | (simp; done) | (simp <;> omega)) _) | (refine Below.setCell ?_ (by first | omega | (simp; done) | (simp <;> omega)) _))) (hb.mono (by first | omega | (simp; done) | (simp <;> omega))))
    have z2_0 : w.heap.size < w2.heap.size := by omega
    clear hb
    have HF := Lib.hid hF
    clear hF ho
    go_wp2_with fail
    exact bodyPost_ret (v := .agg #[.bool a1, .slice A' n0 c', .slice none 0 0]) (by simp [results, Try.results33, go_sem, hc1, z1_0, hc2, z2_0]) rfl ⟨A', none, c', w1.heap.size, w2.heap.size, 0, w2.heap.size, w2.heap.size, rfl, by repeat (first | with_reducible exact HF.out | (with_reducible refine Fr.put ?_ (by first | omega | (simp; done) | (simp <;> omega)) _)), fr_none, Lib.hid (by unfold SepWindow; simp <;> omega), by repeat (first | with_reducible exact Below.refl _ _ | (with_reducible exact HB.out) | (with_reducible refine Below.setCell ?_ (by first | omega | (simp; done) | (simp <;> omega)) _) | (with_reducible refine Below.alloc ?_ (by first | omega | (simp; done) | (simp <;> omega)) _) | (refine Below.alloc ?_ (by first | omega | (simp; done) | (simp <;> omega)) _) | (refine Below.setCell ?_ (by first | omega | (simp; done) | (simp <;> omega)) _))⟩

set_option maxHeartbeats 8000000 in
theorem spec_OpenWindow (l0 : List TStored) (A0 : Option Addr) (n0 c0 lo0 hi0 : Nat) (a1 : Bool) (w : World) (h0 : n0 ≤ 1048576) (r0 : Rd w lo0 hi0 4 A0 n0 (cStored l0)) (k0 : n0 ≤ c0) (b0 : Hid (cStoredOk l0)) :
    Calls Try.prog 32 #[.slice A0 n0 c0, .bool a1] w (MakesWindow (mOWp l0 a1) (mOWb l0).length (mOWb l0) noSt.length noSt w) := by
  have HC := spec_IsStore l0 A0 n0 c0 lo0 hi0
  have HL := rd_len TStored.len r0 (by decide)
  have R0 := Lib.hid r0
  have HB := Lib.hid (Below.refl w.heap.size w)
  cases hq : mIsStore l0 with
  | false =>
    rw [hq] at HC
    replace HC := Lib.hid HC
    obtain ⟨e1, e2⟩ := mOW_no a1 hq
    rw [e1, e2]
    clear hq e1 e2 r0 HL
    go_enter Try.func32, Try.ntmps32
    go_wp2_with fail
    refine Calls.mono (HC.out _ h0 (R0.out.alloc _) k0 b0) ?_
    rintro e w1 ⟨rfl, hb⟩
    obtain ⟨hc1, hf1⟩ := bcell hb
    have hs1 := hb.size
    (try simp at hs1)
    replace HB := Lib.hid (show Below w.heap.size w w1 from Below.trans (by repeat (first | with_reducible exact Below.refl _ _ | (with_reducible exact HB.out) | (with_reducible refine Below.setCell ?_ (by first | omega | (simp; done) | (simp <;> omega)) _) | (with_reducible refine Below.alloc ?_ (by first | omega | (simp; done) | (simp <;> omega)) _) | (refine Below.alloc ?_ (by first | omega | (simp; done) | (simp <;> omega)) _) | (refine Below.setCell ?_ (by first | omega | (simp; done) | (simp <;> omega)) _))) (hb.mono (by first | omega | (simp; done) | (simp <;> omega))))
    have z1_0 : w.heap.size < w1.heap.size := by omega
    clear hb
    go_wp2_with fail
    exact bodyPost_ret (v := .agg #[.bool false, .slice none 0 0, .slice none 0 0]) (by simp [results, Try.results32, go_sem, hc1, z1_0]) rfl ⟨none, none, 0, w.heap.size, w.heap.size, 0, w.heap.size, w.heap.size, rfl, fr_none, fr_none, Lib.hid (by unfold SepWindow; simp <;> omega), by repeat (first | with_reducible exact Below.refl _ _ | (with_reducible exact HB.out) | (with_reducible refine Below.setCell ?_ (by first | omega | (simp; done) | (simp <;> omega)) _) | (with_reducible refine Below.alloc ?_ (by first | omega | (simp; done) | (simp <;> omega)) _) | (refine Below.alloc ?_ (by first | omega | (simp; done) | (simp <;> omega)) _) | (refine Below.setCell ?_ (by first | omega | (simp; done) | (simp <;> omega)) _))⟩
  | true =>
    rw [hq] at HC
    replace HC := Lib.hid HC
    obtain ⟨e1, e2⟩ := mOW_yes a1 hq
    rw [e1, e2, HL]
    clear hq e1 e2 r0 HL
    go_enter Try.func32, Try.ntmps32
    go_wp2_with fail
    refine Calls.mono (HC.out _ h0 (R0.out.alloc _) k0 b0) ?_
    rintro e w1 ⟨rfl, hb⟩
    obtain ⟨hc1, hf1⟩ := bcell hb
    have hs1 := hb.size
    (try simp at hs1)
    replace HB := Lib.hid (show Below w.heap.size w w1 from Below.trans (by repeat (first | with_reducible exact Below.refl _ _ | (with_reducible exact HB.out) | (with_reducible refine Below.setCell ?_ (by first | omega | (simp; done) | (simp <;> omega)) _) | (with_reducible refine Below.alloc ?_ (by first | omega | (simp; done) | (simp <;> omega)) _) | (refine Below.alloc ?_ (by first | omega | (simp; done) | (simp <;> omega)) _) | (refine Below.setCell ?_ (by first | omega | (simp; done) | (simp <;> omega)) _))) (hb.mono (by first | omega | (simp; done) | (simp <;> omega))))
    have z1_0 : w.heap.size < w1.heap.size := by omega
    clear hb
    go_wp2_with fail
    refine Calls.mono (spec_l25Copy a1 l0 A0 n0 c0 lo0 hi0 [] none 0 0 0 0 _ h0 (R0.out.new (by repeat (first | with_reducible exact Below.refl _ _ | (with_reducible exact HB.out) | (with_reducible refine Below.setCell ?_ (by first | omega | (simp; done) | (simp <;> omega)) _) | (with_reducible refine Below.alloc ?_ (by first | omega | (simp; done) | (simp <;> omega)) _) | (refine Below.alloc ?_ (by first | omega | (simp; done) | (simp <;> omega)) _) | (refine Below.setCell ?_ (by first | omega | (simp; done) | (simp <;> omega)) _)))) (Nat.zero_le _) Rd.empty) ?_
    rintro e w2 ⟨A', B', c', lo', hi', d', lo2, hi2, rfl, hF, _, hsep, hb⟩
    have hsep := hsep.out
    unfold SepWindow at hsep
    obtain ⟨hc2, hf2⟩ := bcell hb
    have hs2 := hb.size
    (try simp at hs2)
    replace HB := Lib.hid (show Below w.heap.size w w2 from Below.trans (by repeat (first | with_reducible exact Below.refl _ _ | (with_reducible exact HB.out) | (with_reducible refine Below.setCell ?_ (by first | omega | (simp; done) | (simp <;> omega)) _) | (with_reducible refine Below.alloc ?_ (by first | omega | (simp; done) | (simp <;> omega)) _) | (refine Below.alloc ?_ (by first | omega | (simp; done) | (simp <;> omega)) _) | (refine Below.setCell ?_ (by first | omega | (simp; done) | (simp <;> omega)) _))) (hb.mono (by first | omega | (simp; done) | (simp <;> omega))))
    have z2_0 : w.heap.size < w2.heap.size := by omega
    clear hb
    have HF := Lib.hid hF
    clear hF
    go_wp2_with fail
    exact bodyPost_ret (v := .agg #[.bool a1, .slice A' n0 c', .slice B' 0 d']) (by simp [results, Try.results32, go_sem, hc1, z1_0, hc2, z2_0]) rfl ⟨A', B', c', lo', hi', d', w2.heap.size, w2.heap.size, rfl, by repeat (first | with_reducible exact HF.out | (with_reducible refine Fr.put ?_ (by first | omega | (simp; done) | (simp <;> omega)) _)), fr_none, Lib.hid (by unfold SepWindow; simp <;> omega), by repeat (first | with_reducible exact Below.refl _ _ | (with_reducible exact HB.out) | (with_reducible refine Below.setCell ?_ (by first | omega | (simp; done) | (simp <;> omega)) _) | (with_reducible refine Below.alloc ?_ (by first | omega | (simp; done) | (simp <;> omega)) _) | (refine Below.alloc ?_ (by first | omega | (simp; done) | (simp <;> omega)) _) | (refine Below.setCell ?_ (by first | omega | (simp; done) | (simp <;> omega)) _))⟩

end Go.Proofs.Ytmdmihilhilkiaa
