/- FlowsWithin, of the program and of the model. -/
import Derived.Test.YtfceddgacefejaaFlow
import Derived.Test.YtfceddgacefejaaEFlow
import Derived.Test.YtfceddgacefejaaAFlow
namespace Go.Proofs.Ytfceddgacefejaa
open Go Go.ChangeShapes Go.WideShapes Go.ChangeAt Go.RowKit Go.Lib
set_option linter.unusedVariables false
set_option linter.unusedSimpArgs false
set_option maxRecDepth 100000
def pFW (b : List TFlow) (x : TFlow) : Bool := mIsFlow x && b.any fun y => decide (x = y)
theorem all_step {α : Type} {p : α → Bool} {l : List α} {k : Nat} {x : α} (h : (l.take k).all p = true) (hz : l[k]? = some x) (hq : p x = true) : (l.take (k + 1)).all p = true := by
 rw [List.take_add_one, hz, List.all_append, h]; simp [hq]
theorem all_fails {α : Type} {p : α → Bool} {l : List α} {k : Nat} {x : α} (hz : l[k]? = some x) (hq : p x = false) : l.all p = false :=
 List.all_eq_false.2 ⟨x, List.mem_of_getElem? hz, by rw [hq]; simp⟩
theorem any_at {α : Type} {p : α → Bool} {l : List α} {k : Nat} {x : α} (hz : l[k]? = some x) (hq : p x = true) : l.any p = true :=
 List.any_eq_true.2 ⟨x, List.mem_of_getElem? hz, hq⟩
set_option maxHeartbeats 8000000 in
theorem spec_has (z : TFlow) (l : List TFlow) (A : Option Addr) (n c lo hi : Nat) (w : World) (hn : n ≤ 17592186044416) (hr : Rd w lo hi 3 A n (cFlow l)) :
  Calls Try.prog 170 #[.slice A n c, vFlow z] w (Says (.bool (l.any fun x => decide (z = x))) w) := by
 have HL := Lib.hid (rd_len TFlow.len hr (by decide))
 have HR := Lib.hid hr
 have HBx := Lib.hid (box_new w 183 #[.int .i64 z.f0, .int .i64 z.f1, .int .i64 z.f2])
 clear hr
 generalize hP : (fun x : TFlow => decide (z = x)) = P
 have HP := Lib.hid hP
 clear hP
 go_enter Try.func170, Try.ntmps170
 go_wp2_with fail
 go_loopg [5] n (fun gg i wr => ∃ k : Nat, k ≤ n ∧ n - k ≤ gg ∧ i = .int .i64 k ∧ Hid (Below w.heap.size w wr) ∧ Hid (BoxAt wr w.heap.size 183 #[.int .i64 z.f0, .int .i64 z.f1, .int .i64 z.f2]) ∧ Hid ((l.take k).any P = false))
 case atStart => exact ⟨0, Nat.zero_le _, by omega, rfl, Lib.hid ((Below.refl _ _).alloc (Nat.le_refl _) _), HBx, Lib.hid (by simp)⟩
 case round =>
  obtain ⟨k, hk, hg, rfl, HB, HX, HF⟩ := hrel
  by_cases hlt : k < n
  ·
   obtain ⟨b, off, x, rfl, _, _, hz, hc⟩ := rd_elem TFlow.len (HR.out.new HB.out) HL.out hlt
   have c0 : wr.cell? ⟨b, off + k * 3, none⟩ = _ := hc 0 _ rfl
   have c1 := hc 1 _ rfl
   have c2 := hc 2 _ rfl
   have d0 : wr.cell? ⟨w.heap.size, 0, none⟩ = _ := HX.out.at_ rfl
   have d1 : wr.cell? ⟨w.heap.size, 1, none⟩ = _ := HX.out.at_ rfl
   have d2 : wr.cell? ⟨w.heap.size, 2, none⟩ = _ := HX.out.at_ rfl
   have HZ := Lib.hid hz
   have HPx := Lib.hid (show decide (z = x) = P x by rw [← HP.out])
   clear hz hc
   by_cases e : x = z
   ·
    have g1 : ∀ w, _ := fun w => (eql_Flow x z w).trans (by rw [decide_eq_true e])
    have HE := Lib.hid (any_at HZ.out (show P x = true by rw [← HPx.out, decide_eq_true e.symm]))
    clear e
    go_wp2_with fail
    go_quiet (fail)
    go_wp2_with fail
    go_ret
    exact ⟨by rw [HE.out]; rfl, by first | exact below_dN HB.out _ | exact HB.out⟩
   ·
    have g1 : ∀ w, _ := fun w => (eql_Flow x z w).trans (by rw [decide_eq_false e])
    have HE := Lib.hid (any_step HF.out HZ.out (show P x = false by rw [← HPx.out, decide_eq_false (fun h => e h.symm)]))
    clear e
    go_wp2_with fail
    go_quiet (fail)
    go_wp2_with fail
    go_roundg (n - (k + 1))
    case measure => omega
    case rel => exact ⟨k + 1, by omega, by omega, by go_num, Lib.hid (below_dN HB.out _), Lib.hid HX.out, HE⟩
  ·
   obtain rfl : k = n := by omega
   have HE := Lib.hid (show l.any P = false by have := HF.out; rw [List.take_of_length_le (by have := HL.out; omega)] at this; exact this)
   go_wp2_with fail
   go_ret
   exact ⟨by rw [HE.out]; rfl, by first | exact below_dN HB.out _ | exact HB.out⟩
end Go.Proofs.Ytfceddgacefejaa
