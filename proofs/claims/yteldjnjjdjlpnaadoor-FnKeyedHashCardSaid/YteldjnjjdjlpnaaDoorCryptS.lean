/- Encrypt and Decrypt of the model. -/
import Derived.Test.YteldjnjjdjlpnaaDoorCrypt
import Derived.Deep.AppendLies
namespace Go.Proofs.YteldjnjjdjlpnaaDoor
open Go Go.ChangeShapes Go.WideShapes Go.ChangeAt Go.RowKit Go.Lib
set_option linter.unusedVariables false
set_option maxRecDepth 100000

theorem info_u8c : (Tryd.prog.info? 5).map (fun i => (i.zero, i.size, i.bytes)) = some (some (.int .u8 0), 1, 1) := by kernel_rfl
theorem own_new {B : Nat} {e : TypeId} {k : Nat} {v : Value} {n : Nat} {xs : List Value} {w w' : World} (h : w.ownsRow B e k v n xs) (hb : Below w.heap.size w w') : w'.ownsRow B e k v n xs :=
  h.kept (row := none) ⟨hb.os, hb.tape, hb.output, hb.size, fun k hk _ => hb.block k hk⟩ (by
    cases v.ownBlock with
    | none => exact .inl rfl
    | some _ => exact .inr (fun h => by cases h))
theorem one_byte (z : Int) : ∀ u ∈ (#[Value.int .u8 z]).toList, u.oneCell' = true := by
  intro u hu
  simp only [List.mem_singleton] at hu
  subst hu
  rfl
theorem enc_val {z h : Int} (h0 : 0 ≤ z) (h1 : z ≤ 255) (h2 : 0 ≤ h) (h3 : h < 2147483647) : IntKind.u8.wrap ((IntKind.i64.wrap (IntKind.i64.wrap z + h.tmod 256)).tmod 256) = (z + 1 * h) % 256 := by
  rw [Int.tmod_eq_emod_of_nonneg h2]
  have e1 : IntKind.i64.wrap z = z := IntWalk.i64_in _ (by omega)
  rw [e1]
  have e2 : IntKind.i64.wrap (z + h % 256) = z + h % 256 := IntWalk.i64_in _ (by omega)
  rw [e2, Int.tmod_eq_emod_of_nonneg (by omega)]
  show ((z + h % 256) % 256) % 256 = _
  omega
theorem cell_new {w w' : World} {a : Addr} {u : Value} (hb : Below w.heap.size w w') (h : w.cell? a = some u) : w'.cell? a = some u :=
  (World.cell?_of_block (hb.block _ (World.block_lt_of_cell? w _ h))).trans h
theorem cell_low {B : Nat} {w w' : World} {a : Addr} {u : Value} (hb : Below B w w') (hl : a.block < B) (h : w.cell? a = some u) : w'.cell? a = some u :=
  (World.cell?_of_block (hb.block _ hl)).trans h
/-- append of a literal, at a step of a region that draws its order. -/
theorem step_app_lit {P : Program} {w : World} {ops : Array Oper} {o : Oper} {a : Act} {K : Act → World → Prop} {Q : Exit → Act → World → Prop} {E : Prop} (hgd : o.guard = none) (s x : Operand) (t : TypeId)
    (ho : o.op = .call { callee := .builtin .append, args := #[s, x], argTypes := #[t, t] })
    (base : Nat) (e : TypeId) (z : Value) (size bytes : Nat) (ht : P.underlying t = some (.slice e)) (hinfo : (P.info? e).map (fun i => (i.zero, i.size, i.bytes)) = some (some z, size, bytes))
    (hzs : z.cells.size = size) (hsz : 0 < size) (v : Value) (n : Nat) (xs : List Value) (hs : a.eval s = v) (hown : w.ownsRow base e size v n xs)
    (us : Array Value) (m c g : Nat) (hx : a.eval x = .slice (some ⟨g, 0, none⟩) m c) (hg : g = w.heap.size) (hus : us.size = m * size) (h1 : ∀ u ∈ us.toList, u.oneCell' = true)
    (h63 : n + m ≤ maxLen) (hbytes : (n + m) * bytes ≤ 140737488355328) (hbase : base ≤ w.heap.size)
    (h : ∀ v' w', w'.ownsRow base e size v' (n + m) (xs ++ us.toList) → Below base (w.alloc (.cells us e)) w' → K (a.put o.dst v') w') :
    if Region.wanted o (yielded ops a.tmps) = true then Oper.wp P o a (w.alloc (.cells us e)) K Q else E := by
  subst hg
  have hw : Region.wanted o (yielded ops a.tmps) = true := by simp [Region.wanted, hgd]
  rw [if_pos hw]
  obtain ⟨v', w', hrun, h2, h3, h4⟩ := run_app (P := P) base t o.type e z size bytes ht hinfo hzs hsz v n xs (hown.alloc _) _ _ _ m c us.toList (rd_lit w us e m size hus) h1 h63 hbytes (by simp; omega)
  unfold Oper.wp execOp
  simp only [ho, resolve, invoke, builtin, Sem.run_bind, Sem.run_pure, Result.andThen_ok, List.map_toArray, List.map_cons, List.map_nil, hs, hx, hrun]
  exact h v' w' h2 (below_of_grown (hown.alloc (.cells us e)) (by simp; omega) h3)

theorem dec_sub {z h : Int} (h0 : 0 ≤ z) (h1 : z ≤ 255) (h2 : 0 ≤ h) (h3 : h < 2147483647) : IntKind.i64.wrap (IntKind.i64.wrap z - h.tmod 256) = z - h % 256 := by
  rw [Int.tmod_eq_emod_of_nonneg h2]
  have e1 : IntKind.i64.wrap z = z := IntWalk.i64_in _ (by omega)
  rw [e1]
  exact IntWalk.i64_in _ (by omega)
theorem dec_wf {z h : Int} (h0 : 0 ≤ z) (h1 : z ≤ 255) (h2 : 0 ≤ h) (h3 : h < 2147483647) : (Lit.int .i64 (IntKind.i64.wrap (IntKind.i64.wrap z - h.tmod 256))).wf = true := by
  rw [dec_sub h0 h1 h2 h3]
  exact WalkArith.wf_i64 (by constructor <;> omega)
theorem dec_val {z h : Int} (h0 : 0 ≤ z) (h1 : z ≤ 255) (h2 : 0 ≤ h) (h3 : h < 2147483647) : IntKind.u8.wrap ((IntKind.i64.wrap (IntKind.i64.wrap z - h.tmod 256)) % 256) = (z + (-1) * h) % 256 := by
  rw [dec_sub h0 h1 h2 h3]
  show ((z - h % 256) % 256) % 256 = _
  omega
end Go.Proofs.YteldjnjjdjlpnaaDoor
