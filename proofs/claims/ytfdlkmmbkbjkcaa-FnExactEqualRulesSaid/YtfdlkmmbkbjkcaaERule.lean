/- '==' of Rule; slices.Index, Contains, Clone at slices of them. -/
import Derived.Test.YtfdlkmmbkbjkcaaTRule
import Derived.Test.YtfdlkmmbkbjkcaaFun
import Derived.BigQuiet
import Derived.Deep.QuietTactic
import Derived.WalkSpells
import Derived.Lib.SliceRun
namespace Go.Proofs.Ytfdlkmmbkbjkcaa
open Go Go.ChangeShapes Go.WideShapes Go.ChangeAt Go.RowKit Go.Lib
set_option linter.unusedVariables false
set_option linter.unusedSimpArgs false
set_option maxRecDepth 100000

theorem eqf_Pattern_Rule {w : World} {d : Nat} {xs ys : Array Value} {f : Field} {fs : List Field} {x y : TPattern} (hn : f.name ≠ "_") (ht : f.type = 28) (hx : xs.extract f.offset (f.offset + 2) = #[.int .i64 x.f0, .int .i64 x.f1]) (hy : ys.extract f.offset (f.offset + 2) = #[.int .i64 y.f0, .int .i64 y.f1]) :
    (Op.eqFields (d + 2) xs ys (f :: fs)).run Try.prog w = if decide (x = y) = true then (Op.eqFields (d + 2) xs ys fs).run Try.prog w else .ok false w := by
  have h1 : (part 28 xs f.offset).run Try.prog w = .ok (.agg #[.int .i64 x.f0, .int .i64 x.f1]) w := by
    unfold part
    simp only [Sem.run_bind, Try.isAgg28, Result.andThen_ok, if_true, Try.sizeOf28, Sem.run_pure, hx]
  have h2 : (part 28 ys f.offset).run Try.prog w = .ok (.agg #[.int .i64 y.f0, .int .i64 y.f1]) w := by
    unfold part
    simp only [Sem.run_bind, Try.isAgg28, Result.andThen_ok, if_true, Try.sizeOf28, Sem.run_pure, hy]
  simp only [Op.eqFields, if_pos hn, ht, Sem.run_bind, h1, h2, Result.andThen_ok, equalIn_Pattern x y d w, Sem.run_ite, Sem.run_pure]
  cases decide (x = y) <;> rfl

theorem eqf_Site_Rule {w : World} {d : Nat} {xs ys : Array Value} {f : Field} {fs : List Field} {x y : TSite} (hn : f.name ≠ "_") (ht : f.type = 29) (hx : xs.extract f.offset (f.offset + 2) = #[.int .i64 x.f0, .int .i64 x.f1]) (hy : ys.extract f.offset (f.offset + 2) = #[.int .i64 y.f0, .int .i64 y.f1]) :
    (Op.eqFields (d + 2) xs ys (f :: fs)).run Try.prog w = if decide (x = y) = true then (Op.eqFields (d + 2) xs ys fs).run Try.prog w else .ok false w := by
  have h1 : (part 29 xs f.offset).run Try.prog w = .ok (.agg #[.int .i64 x.f0, .int .i64 x.f1]) w := by
    unfold part
    simp only [Sem.run_bind, Try.isAgg29, Result.andThen_ok, if_true, Try.sizeOf29, Sem.run_pure, hx]
  have h2 : (part 29 ys f.offset).run Try.prog w = .ok (.agg #[.int .i64 y.f0, .int .i64 y.f1]) w := by
    unfold part
    simp only [Sem.run_bind, Try.isAgg29, Result.andThen_ok, if_true, Try.sizeOf29, Sem.run_pure, hy]
  simp only [Op.eqFields, if_pos hn, ht, Sem.run_bind, h1, h2, Result.andThen_ok, equalIn_Site x y d w, Sem.run_ite, Sem.run_pure]
  cases decide (x = y) <;> rfl

theorem equalIn_Rule (x y : TRule) (d : Nat) (w : World) :
    (Op.equalIn (d + 3) 31 (.agg #[.int .i64 x.f0, .int .i64 x.f1, .int .i64 x.f2, .int .i64 x.f3, .int .i64 x.f4, .int .i64 x.f5, .int .i64 x.f6, .int .i64 x.f7]) (.agg #[.int .i64 y.f0, .int .i64 y.f1, .int .i64 y.f2, .int .i64 y.f3, .int .i64 y.f4, .int .i64 y.f5, .int .i64 y.f6, .int .i64 y.f7])).run Try.prog w = .ok (decide (x = y)) w := by
  rw [run_equalIn_agg w (d + 2) 31 _ _ (by kernel_rfl) (by kernel_rfl)]
  simp only [Program.fieldsOf, Try.underlying31]
  rw [eqf_int (by decide) rfl rfl rfl, eqf_int (by decide) rfl rfl rfl, eqf_Pattern_Rule (x := (⟨x.f2, x.f3⟩ : TPattern)) (y := (⟨y.f2, y.f3⟩ : TPattern)) (by decide) rfl rfl rfl, eqf_int (by decide) rfl rfl rfl, eqf_int (by decide) rfl rfl rfl, eqf_Site_Rule (x := (⟨x.f6, x.f7⟩ : TSite)) (y := (⟨y.f6, y.f7⟩ : TSite)) (by decide) rfl rfl rfl]
  simp only [Op.eqFields, Sem.run_pure]
  have he : decide (x = y) = (x.f0 == y.f0 && (x.f1 == y.f1 && (decide ((⟨x.f2, x.f3⟩ : TPattern) = (⟨y.f2, y.f3⟩ : TPattern)) && (x.f4 == y.f4 && (x.f5 == y.f5 && (decide ((⟨x.f6, x.f7⟩ : TSite) = (⟨y.f6, y.f7⟩ : TSite)))))))) := by
    cases x; cases y
    rw [Bool.eq_iff_iff]; simp [and_assoc]
  rw [he]
  cases x.f0 == y.f0 <;> cases x.f1 == y.f1 <;> cases decide ((⟨x.f2, x.f3⟩ : TPattern) = (⟨y.f2, y.f3⟩ : TPattern)) <;> cases x.f4 == y.f4 <;> cases x.f5 == y.f5 <;> cases decide ((⟨x.f6, x.f7⟩ : TSite) = (⟨y.f6, y.f7⟩ : TSite)) <;> rfl
theorem neq_Rule (x y : TRule) (w : World) : (binOp .neq 31 (.agg #[.int .i64 x.f0, .int .i64 x.f1, .int .i64 x.f2, .int .i64 x.f3, .int .i64 x.f4, .int .i64 x.f5, .int .i64 x.f6, .int .i64 x.f7]) (.agg #[.int .i64 y.f0, .int .i64 y.f1, .int .i64 y.f2, .int .i64 y.f3, .int .i64 y.f4, .int .i64 y.f5, .int .i64 y.f6, .int .i64 y.f7])).run Try.prog w = .ok (.bool (!decide (x = y))) w := by
  rw [run_neq_struct, equalIn_Rule x y 9997 w]; rfl
theorem eql_Rule (x y : TRule) (w : World) : (binOp .eql 31 (.agg #[.int .i64 x.f0, .int .i64 x.f1, .int .i64 x.f2, .int .i64 x.f3, .int .i64 x.f4, .int .i64 x.f5, .int .i64 x.f6, .int .i64 x.f7]) (.agg #[.int .i64 y.f0, .int .i64 y.f1, .int .i64 y.f2, .int .i64 y.f3, .int .i64 y.f4, .int .i64 y.f5, .int .i64 y.f6, .int .i64 y.f7])).run Try.prog w = .ok (.bool (decide (x = y))) w := by
  rw [run_eql_struct, equalIn_Rule x y 9997 w]; rfl

theorem icRule : (Try.prog.info? 31).map (fun i => (i.zero, i.size, i.bytes)) = some (some (.agg #[.int .i64 0, .int .i64 0, .int .i64 0, .int .i64 0, .int .i64 0, .int .i64 0, .int .i64 0, .int .i64 0]), 8, 64) := by kernel_rfl
theorem ocRule (l : List TRule) : ∀ u ∈ cRule l, u.oneCell' = true := by
  intro u hu
  obtain ⟨x, _, hx⟩ := List.mem_flatMap.1 hu
  simp only [TRule.cells, List.mem_cons, List.not_mem_nil, or_false] at hx
  rcases hx with rfl | rfl | rfl | rfl | rfl | rfl | rfl | rfl <;> rfl
end Go.Proofs.Ytfdlkmmbkbjkcaa
