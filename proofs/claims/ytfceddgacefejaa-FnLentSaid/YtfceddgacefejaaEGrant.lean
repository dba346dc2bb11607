/- '==' of Grant; slices.Index, Contains, Clone at slices of them. -/
import Derived.Test.YtfceddgacefejaaTGrant
import Derived.Test.YtfceddgacefejaaFun
import Derived.BigQuiet
import Derived.Deep.QuietTactic
import Derived.WalkSpells
import Derived.Lib.SliceRun
namespace Go.Proofs.Ytfceddgacefejaa
open Go Go.ChangeShapes Go.WideShapes Go.ChangeAt Go.RowKit Go.Lib
set_option linter.unusedVariables false
set_option linter.unusedSimpArgs false
set_option maxRecDepth 100000

theorem eqf_Pattern_Grant {w : World} {d : Nat} {xs ys : Array Value} {f : Field} {fs : List Field} {x y : TPattern} (hn : f.name ≠ "_") (ht : f.type = 33) (hx : xs.extract f.offset (f.offset + 2) = #[.int .i64 x.f0, .int .i64 x.f1]) (hy : ys.extract f.offset (f.offset + 2) = #[.int .i64 y.f0, .int .i64 y.f1]) :
  (Op.eqFields (d + 2) xs ys (f :: fs)).run Try.prog w = if decide (x = y) = true then (Op.eqFields (d + 2) xs ys fs).run Try.prog w else .ok false w := by
 have h1 : (part 33 xs f.offset).run Try.prog w = .ok (.agg #[.int .i64 x.f0, .int .i64 x.f1]) w := by
  unfold part
  simp only [Sem.run_bind, Try.isAgg33, Result.andThen_ok, if_true, Try.sizeOf33, Sem.run_pure, hx]
 have h2 : (part 33 ys f.offset).run Try.prog w = .ok (.agg #[.int .i64 y.f0, .int .i64 y.f1]) w := by
  unfold part
  simp only [Sem.run_bind, Try.isAgg33, Result.andThen_ok, if_true, Try.sizeOf33, Sem.run_pure, hy]
 simp only [Op.eqFields, if_pos hn, ht, Sem.run_bind, h1, h2, Result.andThen_ok, equalIn_Pattern x y d w, Sem.run_ite, Sem.run_pure]
 cases decide (x = y) <;> rfl

theorem equalIn_Grant (x y : TGrant) (d : Nat) (w : World) :
  (Op.equalIn (d + 3) 35 (.agg #[.int .i64 x.f0, .int .i64 x.f1, .int .i64 x.f2, .int .i64 x.f3, .int .i64 x.f4, .int .i64 x.f5, .bool x.f6]) (.agg #[.int .i64 y.f0, .int .i64 y.f1, .int .i64 y.f2, .int .i64 y.f3, .int .i64 y.f4, .int .i64 y.f5, .bool y.f6])).run Try.prog w = .ok (decide (x = y)) w := by
 rw [run_equalIn_agg w (d + 2) 35 _ _ (by kernel_rfl) (by kernel_rfl)]
 simp only [Program.fieldsOf, Try.underlying35]
 rw [eqf_int (by decide) rfl rfl rfl, eqf_Pattern_Grant (x := (⟨x.f1, x.f2⟩ : TPattern)) (y := (⟨y.f1, y.f2⟩ : TPattern)) (by decide) rfl rfl rfl, eqf_int (by decide) rfl rfl rfl, eqf_int (by decide) rfl rfl rfl, eqf_int (by decide) rfl rfl rfl, eqf_bool (by decide) rfl rfl rfl]
 simp only [Op.eqFields, Sem.run_pure]
 have he : decide (x = y) = (x.f0 == y.f0 && (decide ((⟨x.f1, x.f2⟩ : TPattern) = (⟨y.f1, y.f2⟩ : TPattern)) && (x.f3 == y.f3 && (x.f4 == y.f4 && (x.f5 == y.f5 && (x.f6 == y.f6)))))) := by
  cases x; cases y
  rw [Bool.eq_iff_iff]; simp [and_assoc]
 rw [he]
 cases x.f0 == y.f0 <;> cases decide ((⟨x.f1, x.f2⟩ : TPattern) = (⟨y.f1, y.f2⟩ : TPattern)) <;> cases x.f3 == y.f3 <;> cases x.f4 == y.f4 <;> cases x.f5 == y.f5 <;> cases x.f6 == y.f6 <;> rfl
theorem neq_Grant (x y : TGrant) (w : World) : (binOp .neq 35 (.agg #[.int .i64 x.f0, .int .i64 x.f1, .int .i64 x.f2, .int .i64 x.f3, .int .i64 x.f4, .int .i64 x.f5, .bool x.f6]) (.agg #[.int .i64 y.f0, .int .i64 y.f1, .int .i64 y.f2, .int .i64 y.f3, .int .i64 y.f4, .int .i64 y.f5, .bool y.f6])).run Try.prog w = .ok (.bool (!decide (x = y))) w := by
 rw [run_neq_struct, equalIn_Grant x y 9997 w]; rfl
theorem eql_Grant (x y : TGrant) (w : World) : (binOp .eql 35 (.agg #[.int .i64 x.f0, .int .i64 x.f1, .int .i64 x.f2, .int .i64 x.f3, .int .i64 x.f4, .int .i64 x.f5, .bool x.f6]) (.agg #[.int .i64 y.f0, .int .i64 y.f1, .int .i64 y.f2, .int .i64 y.f3, .int .i64 y.f4, .int .i64 y.f5, .bool y.f6])).run Try.prog w = .ok (.bool (decide (x = y))) w := by
 rw [run_eql_struct, equalIn_Grant x y 9997 w]; rfl

set_option maxHeartbeats 8000000 in
theorem indexEq_Grant (z : TGrant) (l : List TGrant) (A : Option Addr) (n c lo hi : Nat) (w : World) (hn : n ≤ 17592186044416) (hr : Rd w lo hi 7 A n (cGrant l)) :
  Calls Try.prog 214 #[.slice A n c, .agg #[.int .i64 z.f0, .int .i64 z.f1, .int .i64 z.f2, .int .i64 z.f3, .int .i64 z.f4, .int .i64 z.f5, .bool z.f6]] w (Says (.int .i64 (idxP (fun x => decide (z = x)) l)) w) := by
 have HL := Lib.hid (rd_len TGrant.len hr (by decide))
 have HR := Lib.hid hr
 have HBx := Lib.hid (box_new w 35 #[.int .i64 z.f0, .int .i64 z.f1, .int .i64 z.f2, .int .i64 z.f3, .int .i64 z.f4, .int .i64 z.f5, .bool z.f6])
 clear hr
 generalize hP : (fun x : TGrant => decide (z = x)) = P
 have HP := Lib.hid hP
 clear hP
 go_enter Try.func214, Try.ntmps214
 go_wp2_with fail
 go_loopg [5, 8] n (fun gg _ i wr => ∃ k : Nat, k ≤ n ∧ n - k ≤ gg ∧ i = .int .i64 k ∧ Hid (Below w.heap.size w wr) ∧ Hid (BoxAt wr w.heap.size 35 #[.int .i64 z.f0, .int .i64 z.f1, .int .i64 z.f2, .int .i64 z.f3, .int .i64 z.f4, .int .i64 z.f5, .bool z.f6]) ∧ Hid ((l.take k).any P = false))
 case atStart => exact ⟨0, Nat.zero_le _, by omega, rfl, Lib.hid ((Below.refl _ _).alloc (Nat.le_refl _) _), HBx, Lib.hid (by simp)⟩
 case round =>
  obtain ⟨k, hk, hg, rfl, HB, HX, HF⟩ := hrel
  by_cases hlt : k < n
  ·
   obtain ⟨b, off, x, rfl, _, _, hz, hc⟩ := rd_elem TGrant.len (HR.out.new HB.out) HL.out hlt
   have c0 : wr.cell? ⟨b, off + k * 7, none⟩ = _ := hc 0 _ rfl
   have c1 := hc 1 _ rfl
   have c2 := hc 2 _ rfl
   have c3 := hc 3 _ rfl
   have c4 := hc 4 _ rfl
   have c5 := hc 5 _ rfl
   have c6 := hc 6 _ rfl
   have d0 : wr.cell? ⟨w.heap.size, 0, none⟩ = _ := HX.out.at_ rfl
   have d1 : wr.cell? ⟨w.heap.size, 1, none⟩ = _ := HX.out.at_ rfl
   have d2 : wr.cell? ⟨w.heap.size, 2, none⟩ = _ := HX.out.at_ rfl
   have d3 : wr.cell? ⟨w.heap.size, 3, none⟩ = _ := HX.out.at_ rfl
   have d4 : wr.cell? ⟨w.heap.size, 4, none⟩ = _ := HX.out.at_ rfl
   have d5 : wr.cell? ⟨w.heap.size, 5, none⟩ = _ := HX.out.at_ rfl
   have d6 : wr.cell? ⟨w.heap.size, 6, none⟩ = _ := HX.out.at_ rfl
   have HZ := Lib.hid hz
   have HPx := Lib.hid (show decide (z = x) = P x by rw [← HP.out])
   clear hz hc
   by_cases e : z = x
   ·
    have g1 : ∀ w, _ := fun w => (eql_Grant z x w).trans (by rw [decide_eq_true e])
    have HE := Lib.hid (idxP_hit HF.out HZ.out (by rw [← HPx.out, decide_eq_true e]))
    clear e
    go_wp2_with fail
    go_quiet (fail)
    go_wp2_with fail
    go_ret
    exact ⟨by rw [HE.out]; rfl, by first | exact below_dN HB.out _ | exact HB.out⟩
   ·
    have g1 : ∀ w, _ := fun w => (eql_Grant z x w).trans (by rw [decide_eq_false e])
    have HE := Lib.hid (any_step HF.out HZ.out (by rw [← HPx.out, decide_eq_false e]))
    clear e
    go_wp2_with fail
    go_quiet (fail)
    go_wp2_with fail
    go_roundg (n - (k + 1))
    case measure => omega
    case rel => exact ⟨k + 1, by omega, by omega, by go_num, Lib.hid (below_dN HB.out _), Lib.hid HX.out, HE⟩
  ·
   obtain rfl : k = n := by omega
   have HE := Lib.hid (idxP_miss (by have := HF.out; rw [List.take_of_length_le (by have := HL.out; omega)] at this; exact this))
   go_wp2_with fail
   go_ret
   exact ⟨by rw [HE.out]; rfl, by first | exact below_dN HB.out _ | exact HB.out⟩
set_option maxHeartbeats 8000000 in
theorem contains_Grant (z : TGrant) (l : List TGrant) (A : Option Addr) (n c lo hi : Nat) (w : World) (hn : n ≤ 17592186044416) (hr : Rd w lo hi 7 A n (cGrant l)) :
  Calls Try.prog 129 #[.slice A n c, .agg #[.int .i64 z.f0, .int .i64 z.f1, .int .i64 z.f2, .int .i64 z.f3, .int .i64 z.f4, .int .i64 z.f5, .bool z.f6]] w (Says (.bool (l.any fun x => decide (z = x))) w) := by
 have HC := Lib.hid (fun W h => indexEq_Grant z l A n c lo hi W hn h)
 have HR := Lib.hid hr
 clear hr
 cases hq : l.any (fun x => decide (z = x)) with
 | true =>
  have hx := idxP_nonneg hq
  generalize idxP (fun x => decide (z = x)) l = r at HC hx
  clear hq
  have hd : decide (r ≥ 0) = true := by simp; omega
  go_enter Try.func129, Try.ntmps129
  go_wp2_with fail
  refine Calls.mono (HC.out _ (HR.out.alloc _)) ?_
  rintro e w1 ⟨rfl, hb1⟩
  have HB1 := Lib.hid hb1
  clear hb1
  go_wp2_with fail
  go_ret
  exact ⟨rfl, below_step ((Below.refl _ _).alloc (Nat.le_refl _) _) HB1 (by simp)⟩
 | false =>
  have hx := idxP_miss hq
  rw [hx] at HC
  clear hx hq
  go_enter Try.func129, Try.ntmps129
  go_wp2_with fail
  refine Calls.mono (HC.out _ (HR.out.alloc _)) ?_
  rintro e w1 ⟨rfl, hb1⟩
  have HB1 := Lib.hid hb1
  clear hb1
  go_wp2_with fail
  go_ret
  exact ⟨rfl, below_step ((Below.refl _ _).alloc (Nat.le_refl _) _) HB1 (by simp)⟩
theorem icGrant : (Try.prog.info? 35).map (fun i => (i.zero, i.size, i.bytes)) = some (some (.agg #[.int .i64 0, .int .i64 0, .int .i64 0, .int .i64 0, .int .i64 0, .int .i64 0, .bool false]), 7, 56) := by kernel_rfl
theorem ocGrant (l : List TGrant) : ∀ u ∈ cGrant l, u.oneCell' = true := by
 intro u hu
 obtain ⟨x, _, hx⟩ := List.mem_flatMap.1 hu
 simp only [TGrant.cells, List.mem_cons, List.not_mem_nil, or_false] at hx
 rcases hx with rfl | rfl | rfl | rfl | rfl | rfl | rfl <;> rfl
set_option maxHeartbeats 4000000 in
theorem clone_Grant (l : List TGrant) (A : Option Addr) (n c lo hi : Nat) (w : World) (hn : n ≤ 1048576) (hr : Rd w lo hi 7 A n (cGrant l)) :
  Calls Try.prog 130 #[.slice A n c] w (MakesO 35 7 n (cGrant l) w) := by
 have qT : ∀ (w : World) (a : Option Addr) (n c n' c' : Nat), (binOp .eql 24 (.slice a n c) (.slice none n' c')).run Try.prog w = .ok (.bool a.isNone) w := fun w a n c n' c' => Lib.run_eql_slice_nil w _ _ a n c n' c' Try.underlying24
 rcases A with _ | a
 ·
  have hz : n = 0 := by
   rcases Nat.eq_zero_or_pos n with h0 | h0
   ·
    exact h0
   ·
    obtain ⟨_, _, h, _⟩ := hr.2 h0
    cases h
  subst hz
  have hl : cGrant l = [] := List.eq_nil_of_length_eq_zero (by simpa using hr.1)
  rw [hl]
  clear hl hr
  go_enter Try.func130, Try.ntmps130
  go_wp2
  go_ret
  exact ⟨_, rfl, World.ownsRow_nil w _ _ _, Below.refl _ _⟩
 ·
  have HR := Lib.hid hr
  have HO := Lib.hid (World.ownsRow_lit (e := 35) (size := 7) w #[] 0 (Nat.le_refl _) (by unfold maxLen; omega) rfl)
  clear hr
  go_enter Try.func130, Try.ntmps130
  go_wp2_with (at_builtin; refine wp_app rfl _ _ _ rfl w.heap.size 35 (.agg #[.int .i64 0, .int .i64 0, .int .i64 0, .int .i64 0, .int .i64 0, .int .i64 0, .bool false]) 7 56 Try.underlying24 icGrant rfl (by decide) _ _ _ rfl HO.out lo hi (some a) n c (cGrant l) rfl (HR.out.alloc _) (ocGrant l) (by unfold maxLen; omega) (by omega) (by simp) ?_; intro v1 w1 ho1 hb1 _ _; have HO1 := Lib.hid ho1; have HB1 := Lib.hid (((Below.refl w.heap.size w).alloc (Nat.le_refl _) _).trans hb1); clear ho1 hb1)
  go_ret
  exact ⟨_, rfl, by simpa using HO1.out, HB1.out⟩
end Go.Proofs.Ytfceddgacefejaa
