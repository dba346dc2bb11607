/- What every tied law of this seat needs behind its walk. The sentinel is taken from the row's own list of laid variables, which the given tie pays. No condition of its own. -/
import Derived.Test.YtlnmgfbfpjfddaaDoorFrame
import Derived.Test.YtlnmgfbfpjfddaaDoorTie
import Derived.Test.YtlnmgfbfpjfddaaDoorCards
import Derived.Lay
import Derived.LaidLaws
import Derived.LaidOnce
import Derived.Stop.LaidErr
import Derived.Lib.LaidTab
import Derived.Lib.ItoaMem
import Derived.SevenTiedAt
namespace Go.Proofs.YtlnmgfbfpjfddaaDoor
open Go Go.ChangeShapes Go.WideShapes Go.ChangeAt Go.RowKit Go.WideElems
set_option maxRecDepth 100000

/-- The variable errNoKey holds a pointer to an error of errors.New's make. -/
def Pow10 (w : World) : Prop := ∃ a : Addr, w.var? Tryd.prog "loop.example/g03001/impl.errNoKey" = some #[.iface 171 (.pointer (some a))]
theorem pow10_below {w w' : World} (h : Pow10 w) (hb : Below w.heap.size w w') : Pow10 w' := by
 obtain ⟨a, h⟩ := h
 refine ⟨a, ?_⟩
 unfold World.var? at *
 cases hg : Tryd.prog.globalNamed "loop.example/g03001/impl.errNoKey" with
 | none => rw [hg] at h; simp at h
 | some g =>
  rw [hg] at h
  simp only [Option.bind_some] at h ⊢
  by_cases hlt : g < w.heap.size
  ·
   rw [hb.block g hlt]; exact h
  ·
   rw [Array.getElem?_eq_none (by omega)] at h; simp at h
theorem key_cell {w : World} (h : Pow10 w) : ∃ a : Addr, w.cell? ⟨0, 0, none⟩ = some (.iface 171 (.pointer (some a))) := by
 obtain ⟨a, h⟩ := h
 exact ⟨a, by simpa using World.var?_cell (show Tryd.prog.globalNamed "loop.example/g03001/impl.errNoKey" = some 0 by kernel_rfl) h 0⟩
def laidVars : List (String × DataW Unit) := [("loop.example/g03001/impl.errNoKey", Rows.laid_loop_example_g03001_impl_errNoKey)]
theorem star_es : "*" ++ "errors.errorString" = "*errors.errorString" := by decide
theorem row_es (u : TypeId) (h : Tryd.prog.typeName? 3 u = some "*errors.errorString") : u = 171 :=
 typeName_ptr_named (nm := "errors.errorString") (by rw [star_es]; kernel_rfl) (by kernel_rfl) (by decide) u (by rw [star_es]; exact h)
theorem pow10_of_laid {W : World} (h : laidMetH Tryd.prog laidVars W) : Pow10 W := by
 rw [MakeChecks.laidMetH_plain _ _ _ (by kernel_rfl)] at h
 obtain ⟨a, s, hv, _⟩ := laid_sentinel (g := 0) (ti := 120) (tp := 171) (te := 194) (ts := 9) h (by kernel_rfl) (by kernel_rfl) Tryd.underlying120 row_es Tryd.underlying171 Tryd.underlying194 rfl rfl Tryd.underlying9 (by kernel_rfl) (by kernel_rfl)
 exact ⟨a, hv⟩

theorem key_below {w w' : World} {a : Addr} (h : w.var? Tryd.prog "loop.example/g03001/impl.errNoKey" = some #[.iface 171 (.pointer (some a))]) (hb : Below w.heap.size w w') : w'.var? Tryd.prog "loop.example/g03001/impl.errNoKey" = some #[.iface 171 (.pointer (some a))] := by
 unfold World.var? at *
 cases hg : Tryd.prog.globalNamed "loop.example/g03001/impl.errNoKey" with
 | none => rw [hg] at h; simp at h
 | some g =>
  rw [hg] at h
  simp only [Option.bind_some] at h ⊢
  by_cases hlt : g < w.heap.size
  ·
   rw [hb.block g hlt]; exact h
  ·
   rw [Array.getElem?_eq_none (by omega)] at h; simp at h
section
variable {H : Type} {enc : TypeId × Value → H}
theorem key_vars {X : World} {a : Addr} (hv : X.var? Tryd.prog "loop.example/g03001/impl.errNoKey" = some #[.iface 171 (.pointer (some a))]) (sp : Nat → Bool) :
  DataW.TrodVars enc Tryd.prog X sp ["loop.example/g03001/impl.errNoKey"] [tok enc (.iface 171 (.pointer (some a)))] [.cell 0 0] :=
 vars_read1 enc (g := 0) (by kernel_rfl) (by kernel_rfl) Tryd.underlying120 hv trivial sp
set_option maxRecDepth 100000 in
/-- The row's last step, for a law: the answer is true, each argument reads as it did, nothing that was there has turned. -/
theorem law_post_v {f : Func} {s : ChangeSpec} {apart : Bool} {W W' : World} {args : Array Value} {ds : List (DataW H)} {before : List MemPlace} {gs : List (DataW H)} {a : Addr}
  (hvars : s.vars = ["loop.example/g03001/impl.errNoKey"]) (hv : W.var? Tryd.prog "loop.example/g03001/impl.errNoKey" = some #[.iface 171 (.pointer (some a))]) (hrt : f.resultTypes = #[4]) (hread : ∀ t ∈ f.params.toList, Tryd.prog.readableRec t = true ∧ t < Tryd.prog.types.size)
  (hfn : (s.fn H (ds ++ gs)).results = [.lit (.bool true)] ∧ (s.fn H (ds ++ gs)).args = ds ∧ (s.fn H (ds ++ gs)).vars = gs)
  (hW : DataW.Whole enc Tryd.prog f.params.toList s.vars apart W args.toList ds gs before) (hb : Below W.heap.size W W') :
  s.post enc Tryd.prog f apart true false false W args (.bool true) W' := by
 have hlt : ∀ p ∈ before, p.block < W.heap.size := fun p hp => hW.lt p hp
 have hW2 := hW
 obtain ⟨pa, pv, hA, hV, hps, hz, hn⟩ := hW2
 rw [hvars] at hV
 obtain ⟨rfl, rfl⟩ := hV.unique (key_vars hv _)
 have hv2 : W'.var? Tryd.prog "loop.example/g03001/impl.errNoKey" = some #[.iface 171 (.pointer (some a))] := key_below hv hb
 have hltA : ∀ p ∈ pa, p.block < W.heap.size := fun p hp => hlt p (by rw [hps]; exact List.mem_append_left _ hp)
 have hres : ∀ (b : Nat) (sp : Nat → Bool) (hd : Bool), DataW.TrodAll enc Tryd.prog W' b sp hd f.resultTypes.toList ((Value.bool true).resultList f.resultTypes.size) (s.fn H (ds ++ [tok enc (.iface 171 (.pointer (some a)))])).results [] := by
  intro b sp hd
  rw [hrt, hfn.1]
  exact trodAll_cons_mk (shut_bool Tryd.underlying4 _) trodAll_mk0
 have hargs : ∀ sp : Nat → Bool, (∀ p ∈ before, sp p.block = true) → DataW.TrodAll enc Tryd.prog W' 0 sp true f.params.toList args.toList (s.fn H (ds ++ [tok enc (.iface 171 (.pointer (some a)))])).args pa := by
  intro sp hsp
  rw [hfn.2.1]
  exact args_stay hb _ _ _ _ hread hA hltA sp (fun p hp => hsp p (by rw [hps]; exact List.mem_append_left _ hp))
 have hvs : ∀ sp : Nat → Bool, (∀ p ∈ before, sp p.block = true) → DataW.TrodVars enc Tryd.prog W' sp s.vars (s.fn H (ds ++ [tok enc (.iface 171 (.pointer (some a)))])).vars [.cell 0 0] := by
  intro sp _
  rw [hvars, hfn.2.2]
  exact key_vars hv2 sp
 have hold : ∀ p ∈ before, (fun b => decide (b < W.heap.size)) p.block = true := fun p hp => by simpa using hlt p hp
 refine ⟨ds, _, before, [], pa, [.cell 0 0], hW, hres _ _ _, hargs _ hold, hvs _ hold, World.keptBut_mono (fun p hp => ⟨hp, .inr (by rw [hps] at hp; simpa using hp)⟩) (hb.frame (· ∈ before)), fun h => by cases h⟩

theorem law_lifted_laid {k : FuncId} {f : Func} {s : ChangeSpec} (hf : Tryd.prog.funcs[k]? = some f) (noInit : Tryd.prog.inits.idxOf? k = none)
  (hvars : s.vars = ["loop.example/g03001/impl.errNoKey"]) (hrt : f.resultTypes = #[4]) (hread : f.params.toList.all (fun t => Tryd.prog.readableRec t && decide (t < Tryd.prog.types.size)) = true)
  (os : Os) (started : os.Started)
  (witness : ∃ (w : World) (tape : Tape) (i : Input), w.os = os ∧ (w.forCall tape i).Shaped Tryd.prog ∧ i.vars = [] ∧ Input.okWide Tryd.prog (w.forCall tape i) .any w.heap.size k i ∧
   ((s.pre enc Tryd.prog f [] false (w.forCall tape i).memory i.args ∧ laidMetH Tryd.prog laidVars (w.forCall tape i).memory) ∧ sizedMet enc Tryd.prog f (OpenSpec.ofChange s) false (w.forCall tape i).memory i.args) ∧
    ({} : Assume).holds Tryd.prog (lone (Frame.enter Tryd.prog k i.args .normal) [] (w.forCall tape i)))
  (main : ∀ (W : World) (base : Nat) (args : Array Value) (ds : List (DataW H)) (p : List MemPlace), Pow10 W →
   (∀ (j : Nat) t v, f.params[j]? = some t → args[j]? = some v → Value.okWide Tryd.prog W .any base t v) →
   DataW.TrodAll enc Tryd.prog W 0 (fun _ => true) true f.params.toList args.toList ds p → (∀ x ∈ p, x.block < W.heap.size) →
   (∀ g : DataW H, (s.fn H (ds ++ [g])).results = [.lit (.bool true)] ∧ (s.fn H (ds ++ [g])).args = ds ∧ (s.fn H (ds ++ [g])).vars = [g]) ∧
   Calls Tryd.prog k args W fun e W' => e = .returned (.bool true) ∧ Below W.heap.size W W') :
  ReturnsInHanded {} Tryd.checked os k .any (fun w args => (s.pre enc Tryd.prog f [] false w args ∧ laidMetH Tryd.prog laidVars w) ∧ sizedMet enc Tryd.prog f (OpenSpec.ofChange s) false w args) (s.post enc Tryd.prog f false true false false) := by
 refine returnsInHanded_of_change_and (C := Tryd.checked) (X := fun w _ => laidMetH Tryd.prog laidVars w) (fun _ _ _ hh h => h.of_heap hh) ownk started noInit hf witness ?_
 intro W base args ds gs before hval hW _ _ hL _
 have hW2 := hW
 obtain ⟨pa, pv, hA, hV, hps, hz, hn⟩ := hW2
 rw [hvars] at hV
 obtain ⟨a, hv⟩ := pow10_of_laid hL
 obtain ⟨rfl, rfl⟩ := hV.unique (key_vars hv _)
 have hlt : ∀ p ∈ before, p.block < W.heap.size := fun p hp => hW.lt p hp
 obtain ⟨hfn, hc⟩ := main W base args ds pa ⟨a, hv⟩ hval hA (fun p hp => hlt p (by rw [hps]; exact List.mem_append_left _ hp))
 refine hc.mono fun e W' ⟨he, hb⟩ => ?_
 subst he
 have hread' : ∀ t ∈ f.params.toList, Tryd.prog.readableRec t = true ∧ t < Tryd.prog.types.size := fun t ht => by
  have := List.all_eq_true.1 hread t ht
  simpa using this
 exact ⟨_, rfl, law_post_v hvars hv hrt hread' (hfn _) hW hb⟩
end
end Go.Proofs.YtlnmgfbfpjfddaaDoor
