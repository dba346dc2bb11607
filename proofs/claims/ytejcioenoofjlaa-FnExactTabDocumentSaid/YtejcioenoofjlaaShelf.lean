/-
  DERIVED: THE SHELF's CONTRACTS AT THIS DUMP, IN PLAIN WORDS (tools/lay-plain.mjs out of 'TryShelf.lean', which tools/lay-shelf.mjs wrote): THE SAME DECLARATIONS UNDER THE SAME NAMES: 'import', 'namespace', 'open', 'def', 'theorem' AND NOTHING ELSE: no command of the shelf's: FOR A HAND-IN. Each laying: the table of numbers ('.._ren') and one theorem, a field a fact of the dump's own or the kernel's comparison; each contract: ONE APPLICATION.
-/
import Derived.Shelf.SlSortCmp.WholeK
import Derived.Test.YtejcioenoofjlaaProg
namespace Go.Proofs
open Go.Shelf
def Try.laysSlF06_f232_ren : Go.Shelf.Ren := ⟨fun | 6 => 232 | 15 => 236 | 14 => 235 | 28 => 246 | 29 => 247 | 20 => 238 | 21 => 239 | 22 => 240 | 23 => 241 | 24 => 242 | 25 => 243 | 26 => 244 | 27 => 245 | 46 => 248 | 47 => 249 | 48 => 250 | 49 => 251 | 50 => 252 | 57 => 253 | n => n, fun | 22 => 83 | 24 => 182 | 25 => 276 | 3 => 3 | 39 => 279 | 0 => 0 | 53 => 264 | 55 => 289 | 4 => 4 | 46 => 282 | 45 => 281 | 50 => 254 | 5 => 5 | 9 => 9 | 66 => 290 | 70 => 294 | 76 => 296 | 77 => 297 | n => n, fun | n => n⟩
theorem Try.laysSlF06_f232 : Go.Proofs.SlLaysF0.n6 Try.prog Try.laysSlF06_f232_ren := {
  mixed := by kernel_rfl
  f6 := ⟨Try.f232.name, by decide, Try.func232.trans (congrArg some (by kernel_rfl))⟩
  f14 := ⟨Try.f235.name, by decide, Try.func235.trans (congrArg some (by kernel_rfl))⟩
  f15 := Try.func236.trans (congrArg some (by kernel_rfl))
  f20 := ⟨Try.f238.name, by decide, Try.func238.trans (congrArg some (by kernel_rfl))⟩
  f21 := ⟨Try.f239.name, by decide, Try.func239.trans (congrArg some (by kernel_rfl))⟩
  f22 := ⟨Try.f240.name, by decide, Try.func240.trans (congrArg some (by kernel_rfl))⟩
  f23 := ⟨Try.f241.name, by decide, Try.func241.trans (congrArg some (by kernel_rfl))⟩
  f24 := ⟨Try.f242.name, by decide, Try.func242.trans (congrArg some (by kernel_rfl))⟩
  f25 := ⟨Try.f243.name, by decide, Try.func243.trans (congrArg some (by kernel_rfl))⟩
  f26 := ⟨Try.f244.name, by decide, Try.func244.trans (congrArg some (by kernel_rfl))⟩
  f27 := ⟨Try.f245.name, by decide, Try.func245.trans (congrArg some (by kernel_rfl))⟩
  f28 := Try.func246.trans (congrArg some (by kernel_rfl))
  f29 := Try.func247.trans (congrArg some (by kernel_rfl))
  f46 := ⟨Try.f248.name, by decide, Try.func248.trans (congrArg some (by kernel_rfl))⟩
  f47 := Try.func249.trans (congrArg some (by kernel_rfl))
  f48 := Try.func250.trans (congrArg some (by kernel_rfl))
  f49 := ⟨Try.f251.name, by decide, Try.func251.trans (congrArg some (by kernel_rfl))⟩
  f50 := ⟨Try.f252.name, by decide, Try.func252.trans (congrArg some (by kernel_rfl))⟩
  f57 := ⟨Try.f253.name, by decide, Try.func253.trans (congrArg some (by kernel_rfl))⟩
  t0 := Try.underlying0
  a0 := Try.isAgg0
  z0 := Try.sizeOf0
  v0 := Try.zeroValue0
  t3 := Try.underlying3
  a3 := Try.isAgg3
  z3 := Try.sizeOf3
  v3 := Try.zeroValue3
  t4 := Try.underlying4
  a4 := Try.isAgg4
  z4 := Try.sizeOf4
  v4 := Try.zeroValue4
  t5 := Try.underlying5
  a5 := Try.isAgg5
  z5 := Try.sizeOf5
  v5 := Try.zeroValue5
  t9 := Try.underlying9
  a9 := Try.isAgg9
  z9 := Try.sizeOf9
  v9 := Try.zeroValue9
  t22 := Try.underlying83
  a22 := Try.isAgg83
  z22 := Try.sizeOf83
  v22 := Try.zeroValue83
  t25 := Try.underlying276
  a25 := Try.isAgg276
  z25 := Try.sizeOf276
  v25 := Try.zeroValue276
  t39 := Try.underlying279
  a39 := Try.isAgg279
  z39 := Try.sizeOf279
  v39 := Try.zeroValue279
  t45 := Try.underlying281
  a45 := Try.isAgg281
  z45 := Try.sizeOf281
  v45 := Try.zeroValue281
  t46 := Try.underlying282
  a46 := Try.isAgg282
  z46 := Try.sizeOf282
  v46 := Try.zeroValue282
  t50 := Try.underlying254
  a50 := Try.isAgg254
  z50 := Try.sizeOf254
  v50 := Try.zeroValue254
  t53 := Try.underlying264
  a53 := Try.isAgg264
  z53 := Try.sizeOf264
  v53 := Try.zeroValue264
  t55 := Try.underlying289
  a55 := Try.isAgg289
  z55 := Try.sizeOf289
  v55 := Try.zeroValue289
  t66 := Try.underlying290
  a66 := Try.isAgg290
  z66 := Try.sizeOf290
  v66 := Try.zeroValue290
  t70 := Try.underlying294
  a70 := Try.isAgg294
  z70 := Try.sizeOf294
  v70 := Try.zeroValue294
  t76 := Try.underlying296
  a76 := Try.isAgg296
  z76 := Try.sizeOf296
  v76 := Try.zeroValue296
  t77 := Try.underlying297
  a77 := Try.isAgg297
  z77 := Try.sizeOf297
  v77 := Try.zeroValue297 }
open Go.RowKit Go.Lib Go.Sort in
/-- **slices.SortFunc, IN THE DOCUMENTATION's OWN TERMS: A PERMUTATION OF WHAT THE ROW HELD, SORTED BY 'cmp(a, b) < 0'.** Which of two equals comes first is left open ("The sort is not guaranteed to be stable"). (LAID AT THE INSTANCE 'slices.SortFunc[[]loop.example/g03001/impl.Node,loop.example/g03001/impl.Node]': no walk: one application.) -/
theorem Try.slices_SortFunc {α : Type} [Inhabited α] (k : Nat) (aE : ∀ w, (isAgg (Try.laysSlF06_f232_ren.t 24)).run Try.prog w = .ok true w) (zE : ∀ w, (Go.sizeOf (Try.laysSlF06_f232_ren.t 24)).run Try.prog w = .ok k w) (enc : α → List Value) (hk : ∀ x, (enc x).length = k) (h1 : ∀ x, ∀ v ∈ enc x, v.oneCell' = true) (cf : α → α → Int) (hO : SWO (ltOf cf)) (g : Nat) (cb : Array Value) (blk off cap : Nat) (d : Array α) (w : World) (eg : ∀ args w, (callFunc g args).run Try.prog w = .ok (.enter g args) w) (hcmp : CmpLays Try.prog g cb enc k cf blk off d.size w) (hH : HoldsK enc k w blk off d) (hblk : blk < w.heap.size) (hsz : d.size < 4611686018427387904) :
    Calls Try.prog 232 #[.slice (some ⟨blk, off, none⟩) d.size cap, .func (.func g) #[] cb] w fun e w' =>
      e = .returned (.tuple #[]) ∧ ∃ d' n os, PermIn 0 d.size d d' ∧ SortedIn (ltOf cf) 0 d.size d' ∧ w' = sortWorldK enc k w blk off n d' os := AnyQ.slices_SortFunc Try.laysSlF06_f232 k aE zE enc hk h1 cf hO g cb blk off cap d w eg hcmp hH hblk hsz
end Go.Proofs
