/- TakeBack, of the program and of the model. No condition but the length. -/
import Derived.Test.YtejcioenoofjlaaGreatRunE
import Derived.Test.YtejcioenoofjlaaGreatItWithoutBy
import Derived.Test.YtejcioenoofjlaaGreatESWithoutBy
namespace Go.Proofs.YtejcioenoofjlaaGreat
open Go Go.ChangeShapes Go.WideShapes Go.ChangeAt Go.RowKit Go.Lib Go.Shelf
set_option linter.unusedVariables false
set_option linter.unusedSimpArgs false
set_option maxRecDepth 100000
def mTake (l : List TNode) (es : List TEdit) (a2 : Int) : List TNode := mRun l (es.filter (fun x => x.f5 != a2))
theorem mTake_le {l : List TNode} (es : List TEdit) (a2 : Int) (h : cNodeOk l) : (mTake l es a2).length ≤ l.length + 16 := run_le _ h (by omega) (by omega)
set_option maxHeartbeats 8000000 in
theorem impl_TakeBack (l0 : List TNode) (A0 : Option Addr) (n0 c0 lo0 hi0 : Nat) (l1 : List TEdit) (A1 : Option Addr) (n1 c1 lo1 hi1 : Nat) (a2 : Int) (w : World) (h0 : n0 ≤ 1048576) (r0 : Rd w lo0 hi0 5 A0 n0 (cNode l0)) (b0 : Hid (cNodeOk l0)) (h1 : n1 ≤ 1048576) (r1 : Rd w lo1 hi1 6 A1 n1 (cEdit l1)) (b1 : Hid (cEditOk l1)) (wf2 : (Lit.int .i64 a2).wf = true) :
    Calls Tryz.prog 24 #[.slice A0 n0 c0, .slice A1 n1 c1, .int .i64 a2] w (Makes 42 5 (mTake l0 l1 a2).length (cNode (mTake l0 l1 a2)) w) := by
  have R0 := Lib.hid (r0.old (by decide))
  have R1 := Lib.hid (r1.old (by decide))
  clear r0 r1 wf2
  generalize hM : mTake l0 l1 a2 = M
  have HM := Lib.hid hM
  clear hM
  go_enter Tryz.func24, Tryz.ntmps24
  go_wp2_with fail
  refine (makek_WithoutBy A1 n1 c1 a2 w).mono ?_
  rintro e w1 ⟨Bl, Bk, B, rfl, kl, kk, kb, hb, gl, gk, gb⟩
  have HB1 := Lib.hid hb
  have hs := hb.size
  have CR := Lib.hid (callsIn_wide.1 (replay_in 3 (Nat.le_refl _) 54 #[.pointer (some ⟨Bl, 0, none⟩), .pointer (some ⟨Bk, 0, none⟩)] (l1.filter (fun x => x.f5 != a2)) n1 l0 A0 n0 c0 0 w.heap.size w1 h0 (R0.out.new hb) b0 (enters_of Tryz.func54 (by kernel_rfl) rfl) trivial
    (fun W hW => stops_WithoutBy 2 (by decide) w1.heap.size l1 A1 n1 c1 0 w.heap.size Bl Bk B a2 W (kl.new hW) (kk.new hW) (kb.new hW) ((R1.out.new hb).new hW) hs kl.lt kk.lt kb.lt h1 hW.size)))
  rw [show mRun l0 (l1.filter (fun x => x.f5 != a2)) = M from HM.out] at CR
  generalize hml : M.length = k at CR
  have HK := Lib.hid hml
  clear hb kl kk kb hml gl gk gb
  go_wp2_with fail
  refine CR.out.mono ?_
  rintro e w2 ⟨A', c', rfl, hF, hb2⟩
  have HF := Lib.hid (hF.mono (lo' := w.heap.size) hs (Nat.le_refl _))
  have HB2 := Lib.hid (below_trans HB1.out hb2 (Nat.le_refl _))
  clear hF hb2 CR
  go_wp2_with fail
  go_ret
  exact ⟨A', c', by rw [HK.out]; rfl, by rw [HK.out]; exact HF.out, HB2.out⟩
set_option maxHeartbeats 8000000 in
theorem spec_TakeBack (l0 : List TNode) (A0 : Option Addr) (n0 c0 lo0 hi0 : Nat) (l1 : List TEdit) (A1 : Option Addr) (n1 c1 lo1 hi1 : Nat) (a2 : Int) (w : World) (h0 : n0 ≤ 1048576) (r0 : Rd w lo0 hi0 5 A0 n0 (cNode l0)) (b0 : Hid (cNodeOk l0)) (h1 : n1 ≤ 1048576) (r1 : Rd w lo1 hi1 6 A1 n1 (cEdit l1)) (b1 : Hid (cEditOk l1)) (wf2 : (Lit.int .i64 a2).wf = true) :
    Calls Tryz.prog 18 #[.slice A0 n0 c0, .slice A1 n1 c1, .int .i64 a2] w (Makes 42 5 (mTake l0 l1 a2).length (cNode (mTake l0 l1 a2)) w) := by
  have HL := rd_len TEdit.len r1 (by decide)
  have R0 := Lib.hid r0
  have CW := Lib.hid (spec_WithoutBy l1 A1 n1 c1 lo1 hi1 a2 w h1 r1 b1 wf2)
  have hfl : (l1.filter (fun x => x.f5 != a2)).length ≤ 1048576 := by have := List.length_filter_le (fun x => x.f5 != a2) l1; omega
  have HFo := Lib.hid (show cEditOk (l1.filter (fun x => x.f5 != a2)) from fun x hx => b1.out x (List.mem_filter.1 hx).1)
  generalize hM : mTake l0 l1 a2 = M
  have HM := Lib.hid (show mRun l0 (l1.filter (fun x => x.f5 != a2)) = M from hM)
  clear hM r0 r1 wf2 HL
  generalize l1.filter (fun x => x.f5 != a2) = Q at CW HFo HM hfl
  generalize hql : Q.length = q at CW hfl
  have HQ := Lib.hid hql
  clear hql
  generalize hml : M.length = k
  have HK := Lib.hid hml
  clear hml
  go_enter Tryz.func18, Tryz.ntmps18
  go_wp2_with fail
  refine CW.out.mono ?_
  rintro e w1 ⟨AQ, cQ, rfl, hF, hb⟩
  have CR := Lib.hid (spec_run l0 A0 n0 c0 lo0 hi0 Q AQ q cQ w.heap.size w1.heap.size w1 h0 (R0.out.new hb) b0 hfl hF.rd HFo)
  rw [HM.out, HK.out] at CR
  have HB1 := Lib.hid hb
  clear hF hb CW
  go_wp2_with fail
  refine CR.out.mono ?_
  rintro e w2 ⟨A', c', rfl, hF, hb2⟩
  have HF := Lib.hid (hF.mono (lo' := w.heap.size) HB1.out.size (Nat.le_refl _))
  have HB2 := Lib.hid (below_trans HB1.out hb2 (Nat.le_refl _))
  clear hF hb2 CR
  go_wp2_with fail
  go_ret
  exact ⟨A', c', rfl, HF.out, HB2.out⟩
end Go.Proofs.YtejcioenoofjlaaGreat
