/- IsShadowed and ShadowedRules, of the model and of the program. -/
import Derived.Test.YtfceddgacefejaaShadI
import Derived.Test.YtfceddgacefejaaIxI
import Derived.Test.YtfceddgacefejaaIn
import Derived.Handy
import Derived.Deep.RegionHeld3
import Derived.Deep.LoopGhost
import Derived.IntWalk
namespace Go.Proofs.Ytfceddgacefejaa
open Go Go.ChangeShapes Go.WideShapes Go.ChangeAt Go.RowKit Go.Lib
set_option linter.unusedVariables false
set_option linter.unusedSimpArgs false
set_option maxRecDepth 100000
def mISd (l : List TRule) (i : Int) : Bool := inR i 0 ((l.length : Int) - 1) && mShI l i
theorem mShR_any (l : List TRule) (i : Int) : ((mShR l).any fun z => decide (i = z)) = mISd l i := by
  rw [Bool.eq_iff_iff, List.any_eq_true]
  unfold mISd mShR
  rw [Bool.and_eq_true, inR_true]
  constructor
  · rintro ⟨z, hz, he⟩
    obtain rfl := of_decide_eq_true he
    rw [List.mem_filter] at hz
    obtain ⟨k, hk, e⟩ := rangeI_mem hz.1
    exact ⟨⟨by omega, by omega⟩, hz.2⟩
  · rintro ⟨⟨h1, h2⟩, h3⟩
    refine ⟨i, ?_, decide_eq_true rfl⟩
    rw [List.mem_filter]
    refine ⟨?_, h3⟩
    have hi : i.toNat < l.length := by omega
    have := List.mem_of_getElem? (rangeI_get 0 hi)
    rwa [show (0 : Int) + (i.toNat : Int) = i by omega] at this
set_option maxHeartbeats 8000000 in
theorem impl_IsShadowed (l : List TRule) (A : Option Addr) (n c lo hi : Nat) (i : Int) (w : World) (h0 : n ≤ 1048576) (hr : Rd w lo hi 8 A n (cRule l)) (b0 : Hid (cRuleOk l)) :
    Calls Try.prog 41 #[.slice A n c, .int .i64 i] w (Says (.bool (mISd l i)) w) := by
  have HLn := Lib.hid (show (mShR l).length ≤ 17592186044416 by have := rd_len TRule.len hr (by decide); have := mShR_len l; omega)
  have HC := Lib.hid (impl_ShadowedRules l A n c lo hi w h0 hr b0)
  rw [← mShR_any]
  clear hr
  generalize mShR l = r at HLn HC ⊢
  go_enter Try.func41, Try.ntmps41
  go_wp2_with fail
  refine Calls.mono HC.out ?_
  rintro e w1 ⟨A1, c1, rfl, hf1, hb1⟩
  have HB1 := Lib.hid hb1
  have HC2 := Lib.hid (contains_Int i r A1 r.length c1 _ _ w1 HLn.out hf1.rd)
  clear hb1 hf1
  generalize hq : r.any (fun z => decide (i = z)) = q at HC2
  have HQ := Lib.hid hq
  clear hq
  go_wp2_with fail
  refine Calls.mono HC2.out ?_
  rintro e w2 ⟨rfl, hb2⟩
  have HB2 := Lib.hid (below_trans HB1.out hb2 (Nat.le_refl _))
  clear hb2
  go_wp2_with fail
  go_ret
  exact ⟨by rw [HQ.out]; rfl, HB2.out⟩

end Go.Proofs.Ytfceddgacefejaa
