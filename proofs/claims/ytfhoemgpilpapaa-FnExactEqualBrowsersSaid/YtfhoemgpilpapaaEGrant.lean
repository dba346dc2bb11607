/- '==' of Grant; slices.Index, Contains, Clone at slices of them. -/
import Derived.Test.YtfhoemgpilpapaaTGrant
import Derived.Test.YtfhoemgpilpapaaFun
import Derived.BigQuiet
import Derived.Deep.QuietTactic
import Derived.WalkSpells
import Derived.Lib.SliceRun
namespace Go.Proofs.Ytfhoemgpilpapaa
open Go Go.ChangeShapes Go.WideShapes Go.ChangeAt Go.RowKit Go.Lib
set_option linter.unusedVariables false
set_option linter.unusedSimpArgs false
set_option maxRecDepth 100000

theorem eqf_Pattern_Grant {w : World} {d : Nat} {xs ys : Array Value} {f : Field} {fs : List Field} {x y : TPattern} (hn : f.name ≠ "_") (ht : f.type = 102) (hx : xs.extract f.offset (f.offset + 2) = #[.int .i64 x.f0, .int .i64 x.f1]) (hy : ys.extract f.offset (f.offset + 2) = #[.int .i64 y.f0, .int .i64 y.f1]) :
    (Op.eqFields (d + 2) xs ys (f :: fs)).run Try.prog w = if decide (x = y) = true then (Op.eqFields (d + 2) xs ys fs).run Try.prog w else .ok false w := by
  have h1 : (part 102 xs f.offset).run Try.prog w = .ok (.agg #[.int .i64 x.f0, .int .i64 x.f1]) w := by
    unfold part
    simp only [Sem.run_bind, Try.isAgg102, Result.andThen_ok, if_true, Try.sizeOf102, Sem.run_pure, hx]
  have h2 : (part 102 ys f.offset).run Try.prog w = .ok (.agg #[.int .i64 y.f0, .int .i64 y.f1]) w := by
    unfold part
    simp only [Sem.run_bind, Try.isAgg102, Result.andThen_ok, if_true, Try.sizeOf102, Sem.run_pure, hy]
  simp only [Op.eqFields, if_pos hn, ht, Sem.run_bind, h1, h2, Result.andThen_ok, equalIn_Pattern x y d w, Sem.run_ite, Sem.run_pure]
  cases decide (x = y) <;> rfl

theorem equalIn_Grant (x y : TGrant) (d : Nat) (w : World) :
    (Op.equalIn (d + 3) 118 (.agg #[.int .i64 x.f0, .int .i64 x.f1, .int .i64 x.f2, .int .i64 x.f3, .int .i64 x.f4, .int .i64 x.f5, .bool x.f6]) (.agg #[.int .i64 y.f0, .int .i64 y.f1, .int .i64 y.f2, .int .i64 y.f3, .int .i64 y.f4, .int .i64 y.f5, .bool y.f6])).run Try.prog w = .ok (decide (x = y)) w := by
  rw [run_equalIn_agg w (d + 2) 118 _ _ (by kernel_rfl) (by kernel_rfl)]
  simp only [Program.fieldsOf, Try.underlying118]
  rw [eqf_int (by decide) rfl rfl rfl, eqf_Pattern_Grant (x := (⟨x.f1, x.f2⟩ : TPattern)) (y := (⟨y.f1, y.f2⟩ : TPattern)) (by decide) rfl rfl rfl, eqf_int (by decide) rfl rfl rfl, eqf_int (by decide) rfl rfl rfl, eqf_int (by decide) rfl rfl rfl, eqf_bool (by decide) rfl rfl rfl]
  simp only [Op.eqFields, Sem.run_pure]
  have he : decide (x = y) = (x.f0 == y.f0 && (decide ((⟨x.f1, x.f2⟩ : TPattern) = (⟨y.f1, y.f2⟩ : TPattern)) && (x.f3 == y.f3 && (x.f4 == y.f4 && (x.f5 == y.f5 && (x.f6 == y.f6)))))) := by
    cases x; cases y
    rw [Bool.eq_iff_iff]; simp [and_assoc]
  rw [he]
  cases x.f0 == y.f0 <;> cases decide ((⟨x.f1, x.f2⟩ : TPattern) = (⟨y.f1, y.f2⟩ : TPattern)) <;> cases x.f3 == y.f3 <;> cases x.f4 == y.f4 <;> cases x.f5 == y.f5 <;> cases x.f6 == y.f6 <;> rfl
theorem neq_Grant (x y : TGrant) (w : World) : (binOp .neq 118 (.agg #[.int .i64 x.f0, .int .i64 x.f1, .int .i64 x.f2, .int .i64 x.f3, .int .i64 x.f4, .int .i64 x.f5, .bool x.f6]) (.agg #[.int .i64 y.f0, .int .i64 y.f1, .int .i64 y.f2, .int .i64 y.f3, .int .i64 y.f4, .int .i64 y.f5, .bool y.f6])).run Try.prog w = .ok (.bool (!decide (x = y))) w := by
  rw [run_neq_struct, equalIn_Grant x y 9997 w]; rfl
theorem eql_Grant (x y : TGrant) (w : World) : (binOp .eql 118 (.agg #[.int .i64 x.f0, .int .i64 x.f1, .int .i64 x.f2, .int .i64 x.f3, .int .i64 x.f4, .int .i64 x.f5, .bool x.f6]) (.agg #[.int .i64 y.f0, .int .i64 y.f1, .int .i64 y.f2, .int .i64 y.f3, .int .i64 y.f4, .int .i64 y.f5, .bool y.f6])).run Try.prog w = .ok (.bool (decide (x = y))) w := by
  rw [run_eql_struct, equalIn_Grant x y 9997 w]; rfl

theorem icGrant : (Try.prog.info? 118).map (fun i => (i.zero, i.size, i.bytes)) = some (some (.agg #[.int .i64 0, .int .i64 0, .int .i64 0, .int .i64 0, .int .i64 0, .int .i64 0, .bool false]), 7, 56) := by kernel_rfl
theorem ocGrant (l : List TGrant) : ∀ u ∈ cGrant l, u.oneCell' = true := by
  intro u hu
  obtain ⟨x, _, hx⟩ := List.mem_flatMap.1 hu
  simp only [TGrant.cells, List.mem_cons, List.not_mem_nil, or_false] at hx
  rcases hx with rfl | rfl | rfl | rfl | rfl | rfl | rfl <;> rfl
end Go.Proofs.Ytfhoemgpilpapaa
