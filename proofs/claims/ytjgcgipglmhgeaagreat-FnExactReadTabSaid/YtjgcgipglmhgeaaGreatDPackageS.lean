/- Slices of Package: sized. No condition of its own. -/
import Derived.Test.YtjgcgipglmhgeaaGreatDPackage
namespace Go.Proofs.YtjgcgipglmhgeaaGreat
open Go Go.ChangeShapes Go.WideShapes Go.ChangeAt Go.RowKit Go.Lib
set_option linter.unusedVariables false
set_option linter.unusedSimpArgs false
set_option maxRecDepth 100000
set_option maxHeartbeats 4000000

theorem sz_packages (xs : List DPackage) (A : Option Addr) (n c lo hi : Nat) (left : Int) (w : World) (hr : RdPackage w lo hi A n xs) (h : ((n + MPackage.szs (xs.map DPackage.dat) : Nat) : Int) ≤ left) (hl : left ≤ 1048576) :
    Calls Tryz.prog 14 #[.slice A n c, .int .i64 left] w (Says (.int .i64 (left - ((n + MPackage.szs (xs.map DPackage.dat) : Nat) : Int))) w) := by
  have HL := Lib.hid hr.len
  have hn := hr.1
  have HR := Lib.hid hr
  clear hr
  obtain ⟨T, hT⟩ : ∃ T, Hid (MPackage.szs (xs.map DPackage.dat) = T) := ⟨_, Lib.hid rfl⟩
  rw [hT.out] at h ⊢
  have hd0 : decide (left - (n : Int) < 0) = false := by simp; omega
  go_enter Tryz.func14, Tryz.ntmps14
  go_wp2_with fail
  go_loopw [1, 5] (fun q i wr => ∃ (k S : Nat), k ≤ n ∧ i = .int .i64 k ∧ q = .int .i64 (left - (n : Int) - (S : Int)) ∧ Hid (S = MPackage.szs ((xs.map DPackage.dat).take k)) ∧ Hid ((n : Int) + (S : Int) ≤ left) ∧ Below w.heap.size w wr) (fun _ i _ => n - (intOf i).toNat)
  case atStart => exact ⟨0, 0, Nat.zero_le _, rfl, by simp, Lib.hid rfl, Lib.hid (by simp at hd0 ⊢; omega), Below.refl _ _⟩
  case round =>
    obtain ⟨k, S, hk, rfl, rfl, hS, hSl, hb⟩ := hrel
    have HB := Lib.hid hb
    by_cases hlt : k < n
    · obtain ⟨b, off, x, rfl, _, _, hzz, hc⟩ := rd_elem DPackage.len (HR.out.new hb).2.1 HL.out hlt
      have HX := Lib.hid ((HR.out.new hb).at_ hzz)
      have HT1 : Hid (S + (x.n3 + x.n4 + x.n5 + x.n6) = MPackage.szs ((xs.map DPackage.dat).take (k + 1))) := Lib.hid (by
        rw [MPackage.szs_one (xs.map DPackage.dat) k x.dat (by rw [List.getElem?_map, hzz]; rfl), ← hS.out, DPackage.rd_sz HX.out])
      have HT2 : Hid (S + (x.n3 + x.n4 + x.n5 + x.n6) ≤ T) := Lib.hid (by rw [HT1.out, ← hT.out]; exact MPackage.szs_le _ _)
      have c0 : wr.cell? ⟨b, off + k * 8, none⟩ = some (.int .i64 x.p0) := hc 0 _ rfl
      have c1 : wr.cell? ⟨b, off + k * 8 + 1, none⟩ = some (.int .i64 x.p1) := hc 1 _ rfl
      have c2 : wr.cell? ⟨b, off + k * 8 + 2, none⟩ = some (.int .i64 x.p2) := hc 2 _ rfl
      have c3 : wr.cell? ⟨b, off + k * 8 + 3, none⟩ = some (.slice x.A3 x.n3 x.c3) := hc 3 _ rfl
      have c4 : wr.cell? ⟨b, off + k * 8 + 4, none⟩ = some (.slice x.A4 x.n4 x.c4) := hc 4 _ rfl
      have c5 : wr.cell? ⟨b, off + k * 8 + 5, none⟩ = some (.slice x.A5 x.n5 x.c5) := hc 5 _ rfl
      have c6 : wr.cell? ⟨b, off + k * 8 + 6, none⟩ = some (.slice x.A6 x.n6 x.c6) := hc 6 _ rfl
      have c7 : wr.cell? ⟨b, off + k * 8 + 7, none⟩ = some (.int .i64 x.p7) := hc 7 _ rfl
      clear hb hzz hc
      go_wp2_with fail
      refine Calls.mono (sz_package x.p0 x.p1 x.p2 x.A3 x.n3 x.c3 x.A4 x.n4 x.c4 x.A5 x.n5 x.c5 x.A6 x.n6 x.c6 x.p7 (left - (n : Int) - (S : Int)) _ HX.out.1.1 HX.out.2.1.1 HX.out.2.2.1.1 HX.out.2.2.2.1 (by first | (have := HT2.out; omega) | (simpa using hf)) (by omega)) ?_
      rintro e w1 ⟨rfl, hb1⟩
      have HB1 := Lib.hid (below_trans HB.out hb1 (Nat.le_refl _))
      have hd1 : decide (left - (n : Int) - (S : Int) - (x.n3 : Int) - (x.n4 : Int) - (x.n5 : Int) - (x.n6 : Int) < 0) = false := by first | (have := HT2.out; simp; omega) | (simp; omega)
      clear hb1 c0 c1 c2 c3 c4 c5 c6 c7
      go_wp2_with fail
      go_roundw
      case rel => exact ⟨k + 1, S + (x.n3 + x.n4 + x.n5 + x.n6), by omega, by go_num, (by first | go_num | (congr 1; push_cast; omega)), HT1, Lib.hid (by have := HT2.out; first | omega | (push_cast; omega)), HB1.out⟩
      case measure => simp [intOf]; omega
    · obtain rfl : k = n := by omega
      have hh := hS.out
      rw [List.take_of_length_le (by rw [List.length_map, HL.out]; omega), hT.out] at hh
      subst hh
      clear hb hS
      go_wp2_with fail
      go_ret
      exact ⟨congrArg (fun z => Ending.returned (Value.int .i64 z)) (by push_cast; omega), HB.out⟩

theorem szno_packages (xs : List DPackage) (A : Option Addr) (n c lo hi : Nat) (left : Int) (w : World) (hr : RdPackage w lo hi A n xs) (h : ¬ (((n + MPackage.szs (xs.map DPackage.dat) : Nat) : Int) ≤ left)) (hl : left ≤ 1048576) (hl0 : 0 ≤ left) :
    Calls Tryz.prog 14 #[.slice A n c, .int .i64 left] w (Says (.int .i64 (-1)) w) := by
  have HL := Lib.hid hr.len
  have hn := hr.1
  have HR := Lib.hid hr
  clear hr
  obtain ⟨T, hT⟩ : ∃ T, Hid (MPackage.szs (xs.map DPackage.dat) = T) := ⟨_, Lib.hid rfl⟩
  rw [hT.out] at h
  by_cases hn0 : left < (n : Int)
  · have hd0 : decide (left - (n : Int) < 0) = true := by simp; omega
    go_enter Tryz.func14, Tryz.ntmps14
    go_wp2_with fail
    go_ret
    exact ⟨rfl, Below.refl _ _⟩
  · skip
    have hd0 : decide (left - (n : Int) < 0) = false := by simp; omega
    go_enter Tryz.func14, Tryz.ntmps14
    go_wp2_with fail
    go_loopw [1, 5] (fun q i wr => ∃ (k S : Nat), k ≤ n ∧ i = .int .i64 k ∧ q = .int .i64 (left - (n : Int) - (S : Int)) ∧ Hid (S = MPackage.szs ((xs.map DPackage.dat).take k)) ∧ Hid ((n : Int) + (S : Int) ≤ left) ∧ Below w.heap.size w wr) (fun _ i _ => n - (intOf i).toNat)
    case atStart => exact ⟨0, 0, Nat.zero_le _, rfl, by simp, Lib.hid rfl, Lib.hid (by simp at hd0 ⊢; omega), Below.refl _ _⟩
    case round =>
      obtain ⟨k, S, hk, rfl, rfl, hS, hSl, hb⟩ := hrel
      have HB := Lib.hid hb
      by_cases hlt : k < n
      · obtain ⟨b, off, x, rfl, _, _, hzz, hc⟩ := rd_elem DPackage.len (HR.out.new hb).2.1 HL.out hlt
        have HX := Lib.hid ((HR.out.new hb).at_ hzz)
        have HT1 : Hid (S + (x.n3 + x.n4 + x.n5 + x.n6) = MPackage.szs ((xs.map DPackage.dat).take (k + 1))) := Lib.hid (by
          rw [MPackage.szs_one (xs.map DPackage.dat) k x.dat (by rw [List.getElem?_map, hzz]; rfl), ← hS.out, DPackage.rd_sz HX.out])
        have HT2 : Hid (S + (x.n3 + x.n4 + x.n5 + x.n6) ≤ T) := Lib.hid (by rw [HT1.out, ← hT.out]; exact MPackage.szs_le _ _)
        have c0 : wr.cell? ⟨b, off + k * 8, none⟩ = some (.int .i64 x.p0) := hc 0 _ rfl
        have c1 : wr.cell? ⟨b, off + k * 8 + 1, none⟩ = some (.int .i64 x.p1) := hc 1 _ rfl
        have c2 : wr.cell? ⟨b, off + k * 8 + 2, none⟩ = some (.int .i64 x.p2) := hc 2 _ rfl
        have c3 : wr.cell? ⟨b, off + k * 8 + 3, none⟩ = some (.slice x.A3 x.n3 x.c3) := hc 3 _ rfl
        have c4 : wr.cell? ⟨b, off + k * 8 + 4, none⟩ = some (.slice x.A4 x.n4 x.c4) := hc 4 _ rfl
        have c5 : wr.cell? ⟨b, off + k * 8 + 5, none⟩ = some (.slice x.A5 x.n5 x.c5) := hc 5 _ rfl
        have c6 : wr.cell? ⟨b, off + k * 8 + 6, none⟩ = some (.slice x.A6 x.n6 x.c6) := hc 6 _ rfl
        have c7 : wr.cell? ⟨b, off + k * 8 + 7, none⟩ = some (.int .i64 x.p7) := hc 7 _ rfl
        clear hb hzz hc
        by_cases hf : (x.n3 : Int) + (x.n4 : Int) + (x.n5 : Int) + (x.n6 : Int) ≤ left - (n : Int) - (S : Int)
        · skip
          go_wp2_with fail
          refine Calls.mono (sz_package x.p0 x.p1 x.p2 x.A3 x.n3 x.c3 x.A4 x.n4 x.c4 x.A5 x.n5 x.c5 x.A6 x.n6 x.c6 x.p7 (left - (n : Int) - (S : Int)) _ HX.out.1.1 HX.out.2.1.1 HX.out.2.2.1.1 HX.out.2.2.2.1 (by first | (have := HT2.out; omega) | (simpa using hf)) (by omega)) ?_
          rintro e w1 ⟨rfl, hb1⟩
          have HB1 := Lib.hid (below_trans HB.out hb1 (Nat.le_refl _))
          have hd1 : decide (left - (n : Int) - (S : Int) - (x.n3 : Int) - (x.n4 : Int) - (x.n5 : Int) - (x.n6 : Int) < 0) = false := by first | (have := HT2.out; simp; omega) | (simp; omega)
          clear hb1 c0 c1 c2 c3 c4 c5 c6 c7
          go_wp2_with fail
          go_roundw
          case rel => exact ⟨k + 1, S + (x.n3 + x.n4 + x.n5 + x.n6), by omega, by go_num, (by first | go_num | (congr 1; push_cast; omega)), HT1, Lib.hid (by first | omega | (push_cast; omega)), HB1.out⟩
          case measure => simp [intOf]; omega
        · skip
          go_wp2_with fail
          refine Calls.mono (szno_package x.p0 x.p1 x.p2 x.A3 x.n3 x.c3 x.A4 x.n4 x.c4 x.A5 x.n5 x.c5 x.A6 x.n6 x.c6 x.p7 (left - (n : Int) - (S : Int)) _ HX.out.1.1 HX.out.2.1.1 HX.out.2.2.1.1 HX.out.2.2.2.1 (by omega) (by omega) (by have := hSl.out; omega)) ?_
          rintro e w1 ⟨rfl, hb1⟩
          have HB1 := Lib.hid (below_trans HB.out hb1 (Nat.le_refl _))
          clear hb1 c0 c1 c2 c3 c4 c5 c6 c7
          go_wp2_with fail
          go_ret
          exact ⟨rfl, HB1.out⟩
      · exfalso
        have hh := hS.out
        rw [List.take_of_length_le (by rw [List.length_map, HL.out]; omega), hT.out] at hh
        have := hSl.out
        omega

end Go.Proofs.YtjgcgipglmhgeaaGreat
