/- RunEdits, of the program and of the model. No condition but the length. -/
import Derived.Test.YtejcioenoofjlaaGreatRply
import Derived.Test.YtejcioenoofjlaaGreatAplT
namespace Go.Proofs.YtejcioenoofjlaaGreat
open Go Go.ChangeShapes Go.WideShapes Go.ChangeAt Go.RowKit Go.Lib Go.Shelf
set_option linter.unusedVariables false
set_option linter.unusedSimpArgs false
set_option maxRecDepth 100000
theorem mRun_le {l : List TNode} (es : List TEdit) (h : cNodeOk l) : (mRun l es).length ≤ l.length + 16 := run_le es h (by omega) (by omega)
theorem run_any (l0 : List TNode) (A0 : Option Addr) (n0 c0 lo0 hi0 : Nat) (l1 : List TEdit) (A1 : Option Addr) (n1 c1 lo1 hi1 : Nat) (w : World) (h0 : n0 ≤ 1048576) (r0 : Rd w lo0 hi0 5 A0 n0 (cNode l0)) (b0 : Hid (cNodeOk l0)) (h1 : n1 ≤ 1048576) (r1 : Rd w lo1 hi1 6 A1 n1 (cEdit l1)) :
    Calls Tryz.prog 25 #[.slice A0 n0 c0, .slice A1 n1 c1] w (Makes 42 5 (mRun l0 l1).length (cNode (mRun l0 l1)) w) := by
  have R0 := Lib.hid (r0.old (by decide))
  have R1 := Lib.hid (r1.old (by decide))
  clear r0 r1
  generalize hM : mRun l0 l1 = M
  have HM := Lib.hid hM
  clear hM
  go_enter Tryz.func25, Tryz.ntmps25
  go_wp2_with fail
  refine (make_Values A1 n1 c1 w).mono ?_
  rintro e w1 ⟨Bl, rfl, kl, hb⟩
  have HB1 := Lib.hid hb
  have hs := hb.size
  have CR := Lib.hid (callsIn_wide.1 (replay_in 3 (Nat.le_refl _) 46 #[.pointer (some ⟨Bl, 0, none⟩)] l1 n1 l0 A0 n0 c0 0 w.heap.size w1 h0 (R0.out.new hb) b0 (enters_of Tryz.func46 (by kernel_rfl) rfl) trivial
    (fun W hW => stops_Values 2 (by decide) w1.heap.size l1 A1 n1 c1 0 w.heap.size Bl W (kl.new hW) ((R1.out.new hb).new hW) hs kl.lt h1 hW.size)))
  rw [HM.out] at CR
  generalize hml : M.length = k at CR
  have HK := Lib.hid hml
  clear hb kl hml
  go_wp2_with fail
  refine CR.out.mono ?_
  rintro e w2 ⟨A', c', rfl, hF, hb2⟩
  have HF := Lib.hid (hF.mono (lo' := w.heap.size) hs (Nat.le_refl _))
  have HB2 := Lib.hid (below_trans HB1.out hb2 (Nat.le_refl _))
  clear hF hb2 CR
  go_wp2_with fail
  go_ret
  exact ⟨A', c', by rw [HK.out]; rfl, by rw [HK.out]; exact HF.out, HB2.out⟩
set_option maxHeartbeats 8000000 in
theorem spec_run (l0 : List TNode) (A0 : Option Addr) (n0 c0 lo0 hi0 : Nat) (l1 : List TEdit) (A1 : Option Addr) (n1 c1 lo1 hi1 : Nat) (w : World) (h0 : n0 ≤ 1048576) (r0 : Rd w lo0 hi0 5 A0 n0 (cNode l0)) (b0 : Hid (cNodeOk l0)) (h1 : n1 ≤ 1048576) (r1 : Rd w lo1 hi1 6 A1 n1 (cEdit l1)) (b1 : Hid (cEditOk l1)) :
    Calls Tryz.prog 17 #[.slice A0 n0 c0, .slice A1 n1 c1] w (Makes 42 5 (mRun l0 l1).length (cNode (mRun l0 l1)) w) := by
  have HL0 := Lib.hid (rd_len TNode.len r0 (by decide))
  have HL := Lib.hid (rd_len TEdit.len r1 (by decide))
  have R0 := Lib.hid r0
  have R1 := Lib.hid r1
  clear r0 r1
  go_enter Tryz.func17, Tryz.ntmps17
  go_wp2_with fail
  refine (l5_copy l0 A0 n0 c0 lo0 hi0 _ h0 R0.out).mono ?_
  rintro e w1 ⟨v, rfl, ho, hb⟩
  obtain ⟨A', c', rfl, hF⟩ := fr_of_own ho
  have HF := Lib.hid hF
  have HB := Lib.hid hb
  clear ho hF hb
  go_wp2_with fail
  go_loopg [5, 6] n1 (fun gg v i wr => ∃ (k nn : Nat) (L : List TNode) (A' : Option Addr) (c' : Nat), k ≤ n1 ∧ n1 - k ≤ gg ∧ i = .int .i64 k ∧ v = .slice A' nn c' ∧ Hid (mRun l0 (l1.take k) = L ∧ L.length = nn) ∧ Hid (Fr wr w.heap.size wr.heap.size 42 5 A' nn c' (cNode L)) ∧ Hid (Below w.heap.size w wr))
  case atStart => exact ⟨0, n0, l0, A', c', Nat.zero_le _, by omega, rfl, rfl, Lib.hid ⟨rfl, HL0.out⟩, HF, HB⟩
  case round =>
    clear HF HB
    obtain ⟨k, nn, L, A', c', hk, hg, rfl, rfl, HM, HF, HB⟩ := hrel
    by_cases hlt : k < n1
    · obtain ⟨b, off, x, rfl, _, _, hz, hc⟩ := rd_elem TEdit.len (R1.out.new HB.out) HL.out hlt
      have q0 : wr.cell? ⟨b, off + k * 6, none⟩ = _ := hc 0 _ rfl
      have q1 := hc 1 _ rfl
      have q2 := hc 2 _ rfl
      have q3 := hc 3 _ rfl
      have q4 := hc 4 _ rfl
      have q5 := hc 5 _ rfl
      have hfit : Hid (cNodeOk L) := Lib.hid (by rw [← HM.out.1]; exact run_fits _ b0.out)
      have hnn : nn ≤ 1048576 := by
        have h := run_le (l1.take k) b0.out (M := 1048576) (by omega) (by rw [HL0.out]; exact h0)
        rw [HM.out.1, HM.out.2] at h
        exact h
      have CS := Lib.hid (spec_apply x L A' nn c' w.heap.size wr.heap.size wr hnn HF.out.rd HF.out.cap hfit (Lib.hid (b1.out x (List.mem_of_getElem? hz))))
      have HM2 := Lib.hid (show mRun l0 (l1.take (k + 1)) = mApply L x by rw [run_snoc l0 hz, HM.out.1])
      clear hz hc HF hfit hnn
      generalize mEdited L x = oq at CS
      generalize oq.isSome = ob at CS
      generalize mApply L x = L2 at CS HM2
      generalize hnl : L2.length = n2 at CS
      have HNL := Lib.hid hnl
      clear hnl
      go_wp2_with fail
      refine CS.out.mono ?_
      rintro e w2 ⟨A2, c2, he, hF2, hb2⟩
      rw [HNL.out] at he hF2
      subst he
      have HF2 := Lib.hid (hF2.mono (lo' := w.heap.size) HB.out.size (Nat.le_refl _))
      have HB2 := Lib.hid (below_trans HB.out hb2 (Nat.le_refl _))
      clear hF2 hb2 CS
      go_wp2_with fail
      go_roundg (n1 - (k + 1))
      case measure => omega
      case rel => exact ⟨k + 1, n2, L2, A2, c2, by omega, by omega, by go_num, rfl, Lib.hid ⟨HM2.out, HNL.out⟩, HF2, HB2⟩
    · obtain rfl : k = n1 := by omega
      have HE := Lib.hid (show mRun l0 l1 = L by rw [← HM.out.1, List.take_of_length_le (by rw [HL.out]; omega)])
      go_wp2_with fail
      go_ret
      exact ⟨A', c', by rw [HE.out, HM.out.2]; rfl, by rw [HE.out, HM.out.2]; exact HF.out, HB.out⟩
theorem spec_RunEdits (l0 : List TNode) (A0 : Option Addr) (n0 c0 lo0 hi0 : Nat) (l1 : List TEdit) (A1 : Option Addr) (n1 c1 lo1 hi1 : Nat) (w : World) (h0 : n0 ≤ 1048576) (r0 : Rd w lo0 hi0 5 A0 n0 (cNode l0)) (b0 : Hid (cNodeOk l0)) (h1 : n1 ≤ 1048576) (r1 : Rd w lo1 hi1 6 A1 n1 (cEdit l1)) (b1 : Hid (cEditOk l1)) :
    Calls Tryz.prog 17 #[.slice A0 n0 c0, .slice A1 n1 c1] w (Makes 42 5 (mRun l0 l1).length (cNode (mRun l0 l1)) w) := spec_run l0 A0 n0 c0 lo0 hi0 l1 A1 n1 c1 lo1 hi1 w h0 r0 b0 h1 r1 b1
theorem impl_RunEdits (l0 : List TNode) (A0 : Option Addr) (n0 c0 lo0 hi0 : Nat) (l1 : List TEdit) (A1 : Option Addr) (n1 c1 lo1 hi1 : Nat) (w : World) (h0 : n0 ≤ 1048576) (r0 : Rd w lo0 hi0 5 A0 n0 (cNode l0)) (b0 : Hid (cNodeOk l0)) (h1 : n1 ≤ 1048576) (r1 : Rd w lo1 hi1 6 A1 n1 (cEdit l1)) (b1 : Hid (cEditOk l1)) :
    Calls Tryz.prog 25 #[.slice A0 n0 c0, .slice A1 n1 c1] w (Makes 42 5 (mRun l0 l1).length (cNode (mRun l0 l1)) w) := run_any l0 A0 n0 c0 lo0 hi0 l1 A1 n1 c1 lo1 hi1 w h0 r0 b0 h1 r1
end Go.Proofs.YtejcioenoofjlaaGreat
