/- Merged: MapC, Chil, SgM, SgS, SgI, SgJ. -/
import Derived.Test.YtjgcgipglmhgeaaGreatMgA1
import Derived.Maps.Own
import Derived.Maps.OwnOps
import Derived.Maps.OwnSet
import Derived.Maps.Views
import Derived.Test.YtjgcgipglmhgeaaGreatTNode
import Derived.Test.YtjgcgipglmhgeaaGreatSlI
import Derived.Deep.RegionHeld3
import Derived.Deep.LoopGhost
import Derived.Test.YtjgcgipglmhgeaaGreatMgM
import Derived.Test.YtjgcgipglmhgeaaGreatFun
namespace Go.Proofs.YtjgcgipglmhgeaaGreat
open Go Go.ChangeShapes Go.WideShapes Go.ChangeAt Go.RowKit Go.Lib Go.Maps
set_option linter.unusedVariables false
set_option linter.unusedSimpArgs false
set_option maxRecDepth 100000
theorem zero_bool (w : World) : (zeroValue 4).run Tryz.prog w = .ok (.bool false) w := by kernel_rfl
theorem elem_bool {v : Value} {z : DataW Unit × List MemPlace} (h : plainElem Tryz.prog 4 v = some z) : ∃ x, v = .bool x ∧ z = (.lit (.bool x), []) := by
  unfold plainElem at h
  rw [Tryz.underlying4] at h
  cases v <;> simp at h
  exact ⟨_, rfl, h.symm⟩
theorem make_map_none (ht : Tryz.prog.underlying 132 = some (.map 3 4)) (w : World) :
    (Instr.makeMap 132 none).run Tryz.prog w = .ok (.map (some w.heap.size)) (w.alloc (.map #[] 0)) := by
  simp [Instr.makeMap, run_underlying ht]
/-- Block b is a map of at most n entries that says s. -/
def MapB (w : World) (b n : Nat) (s : Int → Bool) : Prop :=
  ∃ D : DataW Unit, w.ownsMap Tryz.prog 3 (plainElem Tryz.prog 4) b n D ∧ IsMap D ∧ ∀ id : Int, D.atKey (.int .i64 id) (.lit (.bool false)) = .lit (.bool (s id))
section
variable {w w' : World} {b n : Nat} {s s' : Int → Bool}
theorem MapB.lt (h : MapB w b n s) : b < w.heap.size := by
  obtain ⟨D, h1, _⟩ := h
  exact h1.lt
theorem MapB.keep (h : MapB w b n s) (e : w'.heap[b]? = w.heap[b]?) : MapB w' b n s := by
  obtain ⟨D, ⟨es, clock, hb, hF⟩, h2⟩ := h
  exact ⟨D, ⟨es, clock, e.trans hb, hF⟩, h2⟩
theorem MapB.new (h : MapB w b n s) (hb : Below w.heap.size w w') : MapB w' b n s := h.keep (hb.block b h.lt)
theorem MapB.congr_ (h : MapB w b n s) (e : ∀ id, s id = s' id) : MapB w b n s' := by
  have he : s = s' := funext e
  exact he ▸ h
theorem MapB.more {m : Nat} (h : MapB w b n s) (hm : n ≤ m) : MapB w b m s := by
  obtain ⟨D, h1, h2⟩ := h
  exact ⟨D, h1.mono hm, h2⟩
theorem mapB_made (w : World) : MapB (w.alloc (.map #[] 0)) w.heap.size 0 (fun _ => false) :=
  ⟨.map [], World.ownsMap_made _ _ _ _, isMap_empty, fun id => rfl⟩
theorem MapB.look (h : MapB w b n s) (ht : Tryz.prog.underlying 132 = some (.map 3 4)) (id : Int) (hw : (Lit.int .i64 id).wf = true) :
    (Instr.lookup 132 (.map (some b)) (.int .i64 id) false).run Tryz.prog w = .ok (.bool (s id)) w := by
  obtain ⟨D, h1, h2, h3⟩ := h
  obtain ⟨v, ps, hrun, hv⟩ := h1.lookup keyed_int ht (zero_bool w) (plainElem_bool Tryz.underlying4 false) (keyOf_int_mk Tryz.underlying3 hw)
  obtain ⟨x, rfl, hx⟩ := elem_bool hv
  rw [h3 id] at hx
  injection hx with hx _
  injection hx with hx
  injection hx with hx
  rw [hx]
  exact hrun
end
section
variable {w : World} {ops : Array Oper} {rest : List Oper} {o : Oper} {a : Act} {Q : Exit → Act → World → Prop}
/-- 'm[k] = v'. -/
theorem wp_mapb_put (hg : o.guard = none) (m x v : Operand) (t : TypeId) (hop : o.op = Op.mapUpdate t m x v) (ht : Tryz.prog.underlying t = some (.map 3 4)) (b n : Nat) (s : Int → Bool) (hm : a.eval m = .map (some b)) (h : MapB w b n s) (hn : n < maxLen)
    (id : Int) (y : Bool) (hx : a.eval x = .int .i64 id) (hv : a.eval v = .bool y) (hw : (Lit.int .i64 id).wf = true)
    (hK : ∀ w', MapB w' b (n + 1) (fun k => if k = id then y else s k) → w.grownBy w' (some b) → wpList Tryz.prog ops Q rest (a.put o.dst undef) w') : wpList Tryz.prog ops Q (o :: rest) a w := by
  obtain ⟨D, h1, h2, h3⟩ := h
  refine wpList_mapUpdate_own w hg m x v t hop 3 4 keyed_int ht _ b n D hm h1 hn (.int .i64 id) (.bool y) (.int .i64 id) hx hv (keyOf_int_mk Tryz.underlying3 hw) (.lit (.bool y)) [] (plainElem_bool Tryz.underlying4 y) ?_
  intro w' h4 h5
  refine hK w' ⟨_, h4, h2.put _ _, fun k => ?_⟩ h5
  by_cases e : k = id
  · subst e
    simp only [if_true]
    exact atKey_put_same h2 (show WideAt.IsKeyLit (.int .i64 k) from trivial) _ _
  · simp only [e, if_false]
    have hne : (Lit.int .i64 k) ≠ Lit.int .i64 id := fun h => by injection h with _ h; exact e h
    exact (atKey_put_other hne _ _).trans (h3 k)
end

end Go.Proofs.YtjgcgipglmhgeaaGreat
namespace Go.Proofs.YtjgcgipglmhgeaaGreat
open Go Go.ChangeShapes Go.WideShapes Go.ChangeAt Go.RowKit Go.Lib
set_option linter.unusedVariables false
set_option maxRecDepth 100000

theorem info_int : (Tryz.prog.info? 3).map (fun i => (i.zero, i.size, i.bytes)) = some (some (.int .i64 0), 1, 8) := by kernel_rfl
theorem one_int (z : Int) : ∀ u ∈ (#[Value.int .i64 z]).toList, u.oneCell' = true := by
  intro u hu
  simp only [List.mem_singleton] at hu
  subst hu
  rfl
def mChildren (d : List TNode) (id : Int) : List Int := (d.filter fun x => x.f1 == id).map TNode.f0
theorem mChildren_len (d : List TNode) (id : Int) : (mChildren d id).length ≤ d.length := by
  unfold mChildren
  rw [List.length_map]
  exact List.length_filter_le _ _
theorem mChildren_snoc {d : List TNode} {k : Nat} {x : TNode} (id : Int) (h : d[k]? = some x) : mChildren (d.take (k + 1)) id = if (x.f1 == id) = true then mChildren (d.take k) id ++ [x.f0] else mChildren (d.take k) id := by
  rw [List.take_add_one, h]
  unfold mChildren
  rw [Option.toList_some, List.filter_append, List.map_append]
  by_cases e : (x.f1 == id) = true
  · rw [if_pos e, List.filter_cons, if_pos e]; rfl
  · rw [if_neg e, List.filter_cons, if_neg e]; simp
theorem impl_ChildrenOf (l0 : List TNode) (A0 : Option Addr) (n0 c0 lo0 hi0 : Nat) (a1 : Int) (w : World) (h0 : n0 ≤ 1048576) (r0 : Rd w lo0 hi0 5 A0 n0 (cNode l0)) (b0 : Hid (cNodeOk l0)) (w1 : (Lit.int .i64 a1).wf = true) :
    Calls Tryz.prog 101 #[.slice A0 n0 c0, .int .i64 a1] w (Makes 3 1 (mChildren l0 a1).length (i64s (mChildren l0 a1)) w) := by
  have HL := Lib.hid (rd_len TNode.len r0 (by decide))
  have HR := Lib.hid r0
  clear r0 w1
  go_enter Tryz.func101, Tryz.ntmps101
  go_wp2_with fail
  go_loopw [5, 11] (fun v i wr => ∃ k : Nat, k ≤ n0 ∧ i = .int .i64 k ∧ wr.ownsRow w.heap.size 3 1 v (mChildren (l0.take k) a1).length (i64s (mChildren (l0.take k) a1)) ∧ Below w.heap.size w wr) (fun _ i _ => n0 - (intOf i).toNat)
  case atStart => exact ⟨0, Nat.zero_le _, rfl, World.ownsRow_lit w #[] 0 (Nat.le_refl _) (by unfold maxLen; omega) rfl, (Below.refl _ _).alloc (Nat.le_refl _) _⟩
  case round =>
    obtain ⟨k, hk, rfl, hown, hb⟩ := hrel
    have HB := Lib.hid hb
    have HO := Lib.hid hown
    have HS := Lib.hid hb.size
    by_cases hlt : k < n0
    · obtain ⟨b, off, x, rfl, _, _, hz, hc⟩ := rd_elem TNode.len (HR.out.new hb) HL.out hlt
      have c0 : wr.cell? ⟨b, off + k * 5, none⟩ = _ := hc 0 _ rfl
      have c1 := hc 1 _ rfl
      have c2 := hc 2 _ rfl
      have c3 := hc 3 _ rfl
      have c4 := hc 4 _ rfl
      have HE := Lib.hid (mChildren_snoc a1 hz)
      have HN := Lib.hid (Nat.le_trans (mChildren_len (l0.take k) a1) (List.length_take_le _ _))
      clear hb hown hz hc
      by_cases e : (x.f1 == a1) = true
      · have H2 := Lib.hid (by have := HE.out; rwa [if_pos e] at this)
        clear HE
        go_wp2_with (at_builtin; refine wp_app_lit rfl _ _ _ rfl w.heap.size 3 (.int .i64 0) 1 8 Tryz.underlying59 info_int rfl (by decide) _ _ _ rfl (HO.out.alloc _) #[.int .i64 x.f0] 1 1 _ rfl (by simp) rfl (one_int _) (by have := HN.out; unfold maxLen; omega) (by have := HN.out; omega) (by have := HS.out; simp; omega) ?_; intro v1 w2 ho1 hb1)
        have HO1 := Lib.hid (show w2.ownsRow w.heap.size 3 1 v1 (mChildren (l0.take (k + 1)) a1).length (i64s (mChildren (l0.take (k + 1)) a1)) by
          rw [H2.out]
          simpa using ho1)
        have HB1 := Lib.hid ((HB.out.alloc HS.out _).trans hb1)
        clear ho1 hb1
        go_wp2_with fail
        go_roundw
        case rel => exact ⟨k + 1, by omega, by go_num, HO1.out, HB1.out⟩
        case measure => simp [intOf]; omega
      · have H2 := Lib.hid (by have := HE.out; rwa [if_neg e] at this)
        have e' : (x.f1 == a1) = false := by simpa using e
        clear HE e
        go_wp2_with fail
        go_roundw
        case rel => exact ⟨k + 1, by omega, by go_num, by rw [H2.out]; exact (HO.out.alloc _), (HB.out.alloc HS.out _)⟩
        case measure => simp [intOf]; omega
    · obtain rfl : k = n0 := by omega
      rw [List.take_of_length_le (by rw [HL.out]; omega)] at hown
      have HO := Lib.hid hown
      clear hb hown
      go_wp2_with fail
      go_ret
      exact makes_of_own HO.out HB.out
end Go.Proofs.YtjgcgipglmhgeaaGreat
namespace Go.Proofs.YtjgcgipglmhgeaaGreat
open Go Go.ChangeShapes Go.WideShapes Go.ChangeAt Go.RowKit Go.Lib
set_option linter.unusedVariables false
set_option linter.unusedSimpArgs false
set_option maxRecDepth 100000

/-- A node that is hidden from a world by itself. -/
def blk (h : List Int) (b : Int) (x : TNode) : Bool := h.contains x.f2 && (x.f4 != b)
/-- The way up from place k in at most so many steps: nothing on it is hidden. -/
def upF (l : List TNode) (h : List Int) (b : Int) : Nat → Int → Bool
  | 0, _ => true
  | f + 1, k => if k < 0 then true else match l[k.toNat]? with
    | none => true
    | some x => if blk h b x = true then false else upF l h b f (mNodeOf (l.take k.toNat) x.f1)
def mSees (l : List TNode) (h : List Int) (b : Int) (i : Nat) : Bool := upF l h b (i + 1) (i : Int)
theorem mNodeOf_lt (l : List TNode) (k : Nat) (id : Int) : mNodeOf (l.take k) id < k := by
  unfold mNodeOf
  cases hi : idx (l.take k) id with
  | none => simp only; omega
  | some v =>
    obtain ⟨i, x, rfl, hl, _⟩ := idx_lt hi
    rw [List.length_take] at hl
    simp only
    omega
theorem mNodeOf_ge (l : List TNode) (id : Int) : -1 ≤ mNodeOf l id := by
  unfold mNodeOf
  cases hi : idx l id with
  | none => simp
  | some v =>
    obtain ⟨i, x, rfl, hl, _⟩ := idx_lt hi
    simp only
    omega
theorem upF_neg {l : List TNode} {h : List Int} {b : Int} {f : Nat} {k : Int} (hk : k < 0) : upF l h b f k = true := by
  cases f with
  | zero => rfl
  | succ f => unfold upF; rw [if_pos hk]
theorem upF_fuel (l : List TNode) (h : List Int) (b : Int) : ∀ (f f' : Nat) (k : Int), k < f → k < f' → upF l h b f k = upF l h b f' k := by
  intro f
  induction f with
  | zero => intro f' k hk _; rw [upF_neg (by omega), upF_neg (by omega)]
  | succ f ih =>
    intro f' k hk hk'
    by_cases h0 : k < 0
    · rw [upF_neg h0, upF_neg h0]
    · cases f' with
      | zero => omega
      | succ f' =>
        unfold upF
        rw [if_neg h0, if_neg h0]
        cases l[k.toNat]? with
        | none => rfl
        | some x =>
          simp only
          have := mNodeOf_lt l k.toNat x.f1
          rw [ih f' _ (by omega) (by omega)]
theorem upF_hid {l : List TNode} {h : List Int} {b : Int} {k f : Nat} {x : TNode} (hx : l[k]? = some x) (hb : blk h b x = true) : upF l h b (f + 1) (k : Int) = false := by
  unfold upF
  rw [if_neg (by omega), Int.toNat_natCast, hx]
  simp only
  rw [if_pos hb]
theorem upF_go {l : List TNode} {h : List Int} {b : Int} {k : Nat} {x : TNode} (hx : l[k]? = some x) (hb : blk h b x = false) :
    upF l h b (mNodeOf (l.take k) x.f1 + 1).toNat (mNodeOf (l.take k) x.f1) = upF l h b (k + 1) (k : Int) := by
  conv => rhs; unfold upF
  rw [if_neg (by omega), Int.toNat_natCast, hx]
  simp only
  rw [if_neg (by rw [hb]; decide)]
  have h1 := mNodeOf_lt l k x.f1
  have h2 := mNodeOf_ge (l.take k) x.f1
  exact upF_fuel _ _ _ _ _ _ (by omega) (by omega)
theorem idx_take_eq {l : List TNode} {id : Int} {j : Nat} (hs : (idx (l.take j) id).isSome = true) : idx (l.take j) id = idx l id := by
  have e : l = l.take j ++ l.drop j := (List.take_append_drop _ _).symm
  cases hi : idx (l.take j) id with
  | none => rw [hi] at hs; cases hs
  | some v =>
    unfold idx at hi ⊢
    conv => rhs; rw [e]
    rw [List.findIdx?_append]
    cases hf : (l.take j).findIdx? (fun x => x.f0 == id) with
    | none => rw [hf] at hi; cases hi
    | some i => rw [hf] at hi; simpa using hi.symm
/-- Seen on the way down from place i. -/
inductive Vis (l : List TNode) (h : List Int) (b : Int) (i : Nat) : Nat → Prop
  | here {x : TNode} : l[i]? = some x → blk h b x = false → Vis l h b i i
  | down {j p : Nat} {y : TNode} : l[j]? = some y → blk h b y = false → idx l y.f1 = some (p : Int) → p < j → Vis l h b i p → Vis l h b i j
section
variable {l : List TNode} {h : List Int} {b : Int}
theorem Vis.ok {i j : Nat} (v : Vis l h b i j) : ∃ y, l[j]? = some y ∧ blk h b y = false := by
  cases v with
  | here hx hb => exact ⟨_, hx, hb⟩
  | down hx hb _ _ _ => exact ⟨_, hx, hb⟩
theorem doc_par (hd : mIsDoc l = true) {j : Nat} {x : TNode} (hx : l[j]? = some x) (hj : j ≠ 0) : ∃ p : Nat, idx l x.f1 = some (p : Int) ∧ p < j ∧ mNodeOf (l.take j) x.f1 = p := by
  have hf := doc_at hd hx
  unfold fitAt at hf
  rw [if_neg hj, Bool.and_eq_true] at hf
  obtain ⟨p, hp, hlt⟩ := idx_of_take hf.2
  refine ⟨p, hp, hlt, ?_⟩
  unfold mNodeOf
  rw [idx_take_eq hf.2, hp]
theorem sees_iff (hd : mIsDoc l = true) : ∀ (j : Nat), j < l.length → (mSees l h b j = true ↔ Vis l h b 0 j) := by
  intro j
  induction j using Nat.strongRecOn with
  | ind j ih =>
    intro hj
    have hx : l[j]? = some l[j] := List.getElem?_eq_getElem hj
    unfold mSees
    cases hb : blk h b l[j] with
    | true =>
      rw [upF_hid hx hb]
      constructor
      · intro h; cases h
      · intro v
        obtain ⟨y, hy, hby⟩ := v.ok
        rw [hx] at hy
        injection hy with hy
        rw [← hy, hb] at hby
        cases hby
    | false =>
      rw [← upF_go hx hb]
      by_cases h0 : j = 0
      · subst h0
        have hn : mNodeOf (l.take 0) l[0].f1 < 0 := by have := mNodeOf_lt l 0 l[0].f1; omega
        rw [upF_neg hn]
        exact ⟨fun _ => .here hx hb, fun _ => rfl⟩
      · obtain ⟨p, hp, hlt, hm⟩ := doc_par hd hx h0
        rw [hm]
        have hpl : p < l.length := by omega
        have he : upF l h b ((p : Int) + 1).toNat (p : Int) = mSees l h b p := by
          unfold mSees
          exact upF_fuel _ _ _ _ _ _ (by omega) (by omega)
        rw [he, ih p hlt hpl]
        constructor
        · intro v; exact .down hx hb hp hlt v
        · intro v
          cases v with
          | here hx' _ => exact absurd rfl h0
          | down hx' _ hp' _ v' =>
            rw [hx] at hx'
            injection hx' with hx'
            rw [← hx', hp] at hp'
            injection hp' with hp'
            obtain rfl := Int.ofNat.inj hp'
            exact v'
theorem doc_self (hd : mIsDoc l = true) {i : Nat} {x : TNode} (hx : l[i]? = some x) : idx l x.f0 = some (i : Int) := by
  have ha := doc_asc hd
  have hi := (List.getElem?_eq_some_iff.1 hx).1
  cases hv : idx l x.f0 with
  | none =>
    have := idx_none (l := l) (id := x.f0) (by rw [hv]; rfl) x (List.mem_of_getElem? hx)
    exact absurd rfl this
  | some v =>
    obtain ⟨j, y, rfl, hj, hy, he⟩ := idx_lt hv
    rw [List.pairwise_iff_getElem] at ha
    have e1 : l[i] = x := by rw [List.getElem?_eq_getElem hi] at hx; exact Option.some.inj hx
    have e2 : l[j] = y := by rw [List.getElem?_eq_getElem hj] at hy; exact Option.some.inj hy
    rcases Nat.lt_trichotomy i j with hlt | rfl | hlt
    · have := ha i j hi hj hlt; rw [e1, e2] at this; omega
    · rfl
    · have := ha j i hj hi hlt; rw [e1, e2] at this; omega
theorem doc_child (hd : mIsDoc l = true) {i c : Nat} {x y : TNode} (hx : l[i]? = some x) (hy : l[c]? = some y) (he : y.f1 = x.f0) : i < c := by
  by_cases h0 : c = 0
  · subst h0
    have hf := doc_at hd hy
    unfold fitAt at hf
    rw [if_pos rfl, Bool.and_eq_true, beq_iff_eq, beq_iff_eq] at hf
    have := doc_nonneg hd _ _ hx
    omega
  · obtain ⟨p, hp, hlt, _⟩ := doc_par hd hy h0
    rw [he, doc_self hd hx] at hp
    injection hp with hp
    obtain rfl := Int.ofNat.inj hp
    exact hlt
theorem vis_up (hd : mIsDoc l = true) {i c j : Nat} {x y : TNode} (hx : l[i]? = some x) (hb : blk h b x = false) (hy : l[c]? = some y) (he : y.f1 = x.f0) (v : Vis l h b c j) : Vis l h b i j := by
  induction v with
  | here hx' hb' =>
    rw [hy] at hx'
    injection hx' with hx'
    subst hx'
    exact .down hy hb' (by rw [he]; exact doc_self hd hx) (doc_child hd hx hy he) (.here hx hb)
  | down hx' hb' hp hlt _ ih => exact .down hx' hb' hp hlt ih
theorem vis_iff (hd : mIsDoc l = true) {i j : Nat} {x : TNode} (hx : l[i]? = some x) (hb : blk h b x = false) :
    Vis l h b i j ↔ (j = i ∨ ∃ (c : Nat) (y : TNode), l[c]? = some y ∧ y.f1 = x.f0 ∧ Vis l h b c j) := by
  constructor
  · intro v
    induction v with
    | here _ _ => exact .inl rfl
    | @down j p y hy hby hp hlt _ ih =>
      right
      rcases ih with rfl | ⟨c, z, hz, he, v⟩
      · obtain ⟨i', x', hv, _, hx', he⟩ := idx_lt hp
        obtain rfl := Int.ofNat.inj hv
        rw [hx] at hx'
        injection hx' with hx'
        subst hx'
        exact ⟨j, y, hy, he.symm, .here hy hby⟩
      · exact ⟨c, z, hz, he, .down hy hby hp hlt v⟩
  · rintro (rfl | ⟨c, y, hy, he, v⟩)
    · exact .here hx hb
    · exact vis_up hd hx hb hy he v
/-- An Id that is seen on the way down from place i. -/
def SeenId (l : List TNode) (h : List Int) (b : Int) (i : Nat) (id : Int) : Prop := ∃ (j : Nat) (y : TNode), l[j]? = some y ∧ y.f0 = id ∧ Vis l h b i j
/-- The nodes at the first k places that are seen. -/
def seenTo (l : List TNode) (h : List Int) (b : Int) : Nat → List TNode
  | 0 => []
  | k + 1 => match l[k]? with
    | some x => if mSees l h b k = true then seenTo l h b k ++ [x] else seenTo l h b k
    | none => seenTo l h b k
def mSeen (l : List TNode) (h : List Int) (b : Int) : List TNode := if mIsDoc l = true then seenTo l h b l.length else []
theorem seenTo_some {k : Nat} {x : TNode} (hx : l[k]? = some x) (hs : mSees l h b k = true) : seenTo l h b (k + 1) = seenTo l h b k ++ [x] := by
  rw [seenTo, hx]; simp only; rw [if_pos hs]
theorem seenTo_none {k : Nat} {x : TNode} (hx : l[k]? = some x) (hs : mSees l h b k = false) : seenTo l h b (k + 1) = seenTo l h b k := by
  rw [seenTo, hx]; simp only; rw [if_neg (by rw [hs]; decide)]
theorem seenTo_len : ∀ k, (seenTo l h b k).length ≤ k := by
  intro k
  induction k with
  | zero => simp [seenTo]
  | succ k ih =>
    unfold seenTo
    split
    · split
      · rw [List.length_append, List.length_singleton]; omega
      · omega
    · omega
theorem mSeen_len (l : List TNode) (h : List Int) (b : Int) : (mSeen l h b).length ≤ l.length := by
  unfold mSeen
  split
  · exact seenTo_len _
  · simp
theorem seenTo_mem : ∀ k, ∀ x, x ∈ seenTo l h b k ↔ ∃ j, j < k ∧ l[j]? = some x ∧ mSees l h b j = true := by
  intro k
  induction k with
  | zero => intro x; simp [seenTo]
  | succ k ih =>
    intro x
    unfold seenTo
    cases hk : l[k]? with
    | none =>
      simp only
      rw [ih]
      constructor
      · rintro ⟨j, hj, hx, hs⟩; exact ⟨j, by omega, hx, hs⟩
      · rintro ⟨j, hj, hx, hs⟩
        refine ⟨j, ?_, hx, hs⟩
        by_cases e : j = k
        · subst e; rw [hk] at hx; cases hx
        · omega
    | some z =>
      simp only
      cases hs : mSees l h b k with
      | false =>
        rw [if_neg (by decide), ih]
        constructor
        · rintro ⟨j, hj, hx, hs⟩; exact ⟨j, by omega, hx, hs⟩
        · rintro ⟨j, hj, hx, hs'⟩
          refine ⟨j, ?_, hx, hs'⟩
          by_cases e : j = k
          · subst e; rw [hs] at hs'; cases hs'
          · omega
      | true =>
        rw [if_pos rfl, List.mem_append, ih, List.mem_singleton]
        constructor
        · rintro (⟨j, hj, hx, hs⟩ | rfl)
          · exact ⟨j, by omega, hx, hs⟩
          · exact ⟨k, by omega, hk, hs⟩
        · rintro ⟨j, hj, hx, hs'⟩
          by_cases e : j = k
          · subst e; rw [hk] at hx; injection hx with hx; exact .inr hx.symm
          · exact .inl ⟨j, by omega, hx, hs'⟩
theorem mSeen_ok (hok : cNodeOk l) : cNodeOk (mSeen l h b) := by
  intro x hx
  unfold mSeen at hx
  split at hx
  · obtain ⟨j, _, hj, _⟩ := (seenTo_mem _ _).1 hx
    exact hok x (List.mem_of_getElem? hj)
  · cases hx
/-- The Id of a node of a document is seen just where the node is. -/
theorem seen_at (hd : mIsDoc l = true) {k : Nat} {x : TNode} (hx : l[k]? = some x) : SeenId l h b 0 x.f0 ↔ mSees l h b k = true := by
  rw [sees_iff hd k (List.getElem?_eq_some_iff.1 hx).1]
  constructor
  · rintro ⟨j, y, hy, he, v⟩
    have h1 := doc_self hd hy
    rw [he, doc_self hd hx] at h1
    injection h1 with h1
    obtain rfl := Int.ofNat.inj h1
    exact v
  · intro v; exact ⟨k, x, hx, rfl, v⟩
theorem idx_some_iff {m : List TNode} {id : Int} : (idx m id).isSome = true ↔ ∃ x ∈ m, x.f0 = id := by
  constructor
  · intro hs
    obtain ⟨v, hv⟩ := Option.isSome_iff_exists.1 hs
    obtain ⟨i, x, _, _, hx, he⟩ := idx_lt hv
    exact ⟨x, List.mem_of_getElem? hx, he⟩
  · rintro ⟨x, hx, he⟩
    cases hn : (idx m id).isSome with
    | true => rfl
    | false => exact absurd he (idx_none hn x hx)
theorem seen_idx (hd : mIsDoc l = true) (id : Int) : SeenId l h b 0 id ↔ (idx (mSeen l h b) id).isSome = true := by
  rw [idx_some_iff]
  unfold mSeen
  rw [if_pos hd]
  constructor
  · rintro ⟨j, y, hy, rfl, v⟩
    have hj := (List.getElem?_eq_some_iff.1 hy).1
    exact ⟨y, (seenTo_mem _ _).2 ⟨j, hj, hy, (sees_iff hd j hj).2 v⟩, rfl⟩
  · rintro ⟨x, hx, rfl⟩
    obtain ⟨j, hj, hjx, hs⟩ := (seenTo_mem _ _).1 hx
    exact ⟨j, x, hjx, rfl, (sees_iff hd j hj).1 hs⟩
/-- One child's turn: what is seen below the first k + 1 children. -/
def SeenKids (l : List TNode) (h : List Int) (b : Int) (cs : List Int) (id : Int) : Prop := ∃ (z : Int) (c : Nat), z ∈ cs ∧ idx l z = some (c : Int) ∧ SeenId l h b c id
theorem kids_nil (id : Int) : ¬ SeenKids l h b [] id := by rintro ⟨z, c, hz, _⟩; cases hz
theorem kids_snoc {cs : List Int} {k : Nat} {z : Int} {c : Nat} (hz : cs[k]? = some z) (hc : idx l z = some (c : Int)) (id : Int) : SeenKids l h b (cs.take (k + 1)) id ↔ (SeenKids l h b (cs.take k) id ∨ SeenId l h b c id) := by
  rw [List.take_add_one, hz, Option.toList_some]
  constructor
  · rintro ⟨z', c', hz', hc', hs⟩
    rcases List.mem_append.1 hz' with hm | hm
    · exact .inl ⟨z', c', hm, hc', hs⟩
    · rw [List.mem_singleton.1 hm, hc] at hc'
      injection hc' with hc'
      obtain rfl := Int.ofNat.inj hc'
      exact .inr hs
  · rintro (⟨z', c', hz', hc', hs⟩ | hs)
    · exact ⟨z', c', List.mem_append.2 (.inl hz'), hc', hs⟩
    · exact ⟨z, c, List.mem_append.2 (.inr (List.mem_singleton.2 rfl)), hc, hs⟩
theorem kid_at (hd : mIsDoc l = true) {i : Nat} {x : TNode} (hx : l[i]? = some x) {z : Int} (hz : z ∈ mChildren l x.f0) : ∃ c : Nat, idx l z = some (c : Int) ∧ i < c ∧ c < l.length := by
  unfold mChildren at hz
  obtain ⟨y, hy, rfl⟩ := List.mem_map.1 hz
  obtain ⟨hm, he⟩ := List.mem_filter.1 hy
  obtain ⟨c, hc⟩ := List.getElem?_of_mem hm
  exact ⟨c, doc_self hd hc, doc_child hd hx hc (by simpa using he), (List.getElem?_eq_some_iff.1 hc).1⟩
theorem seen_kids (hd : mIsDoc l = true) {i : Nat} {x : TNode} (hx : l[i]? = some x) (hb : blk h b x = false) (id : Int) : SeenId l h b i id ↔ (id = x.f0 ∨ SeenKids l h b (mChildren l x.f0) id) := by
  constructor
  · rintro ⟨j, y, hy, he, v⟩
    rcases (vis_iff hd hx hb).1 v with rfl | ⟨c, z, hz, hp, v'⟩
    · rw [hx] at hy
      injection hy with hy
      subst hy
      exact .inl he.symm
    · refine .inr ⟨z.f0, c, ?_, doc_self hd hz, j, y, hy, he, v'⟩
      unfold mChildren
      exact List.mem_map.2 ⟨z, List.mem_filter.2 ⟨List.mem_of_getElem? hz, by simpa using hp⟩, rfl⟩
  · rintro (rfl | ⟨z, c, hz, hc, j, y, hy, he, v⟩)
    · exact ⟨i, x, hx, rfl, .here hx hb⟩
    · unfold mChildren at hz
      obtain ⟨u, hu, rfl⟩ := List.mem_map.1 hz
      obtain ⟨hm, hp⟩ := List.mem_filter.1 hu
      obtain ⟨c', hc'⟩ := List.getElem?_of_mem hm
      rw [doc_self hd hc'] at hc
      injection hc with hc
      obtain rfl := Int.ofNat.inj hc
      exact ⟨j, y, hy, he, vis_up hd hx hb hc' (by simpa using hp) v⟩
theorem Vis.top {i j : Nat} (v : Vis l h b i j) : ∃ x, l[i]? = some x ∧ blk h b x = false := by
  induction v with
  | here hx hb => exact ⟨_, hx, hb⟩
  | down _ _ _ _ _ ih => exact ih
theorem seen_hid {i : Nat} {x : TNode} (hx : l[i]? = some x) (hb : blk h b x = true) (id : Int) : ¬ SeenId l h b i id := by
  rintro ⟨j, y, hy, he, v⟩
  obtain ⟨x', hx', hb'⟩ := v.top
  rw [hx] at hx'
  injection hx' with hx'
  rw [← hx', hb] at hb'
  cases hb'
end
/-- How many times a walk puts something into the map, at most. -/
def bnd : Nat → Nat
  | 0 => 0
  | f + 1 => 1 + 16 * bnd f
theorem bnd_mono (f : Nat) : bnd f ≤ bnd (f + 1) := by unfold bnd; cases f <;> simp [bnd]; omega
theorem bnd_le {f g : Nat} (h : f ≤ g) : bnd f ≤ bnd g := by
  induction h with
  | refl => exact Nat.le_refl _
  | step _ ih => exact Nat.le_trans ih (bnd_mono _)
theorem bnd_16 : bnd 16 ≤ maxLen := by decide +kernel
end Go.Proofs.YtjgcgipglmhgeaaGreat
namespace Go.Proofs.YtjgcgipglmhgeaaGreat
open Go Go.ChangeShapes Go.WideShapes Go.ChangeAt Go.RowKit Go.Lib
set_option linter.unusedVariables false
set_option linter.unusedSimpArgs false
set_option maxRecDepth 100000

theorem has_hit {l : List Int} {k : Nat} {z : Int} (hz : l[k]? = some z) : l.contains z = true := by
  rw [List.contains_iff_mem]; exact List.mem_of_getElem? hz
theorem has_next {l : List Int} {k : Nat} {z a : Int} (h : (l.take k).contains a = false) (hz : l[k]? = some z) (e : z ≠ a) : (l.take (k + 1)).contains a = false := by
  rw [List.take_add_one, hz, Option.toList_some]
  simp only [List.contains_eq_mem, decide_eq_false_iff_not, List.mem_append, List.mem_singleton] at h ⊢
  rintro (h1 | h1)
  · exact h h1
  · exact e h1.symm
theorem spec_l7Has (l : List Int) (A : Option Addr) (n c lo hi : Nat) (a : Int) (X : Bool) (w : World) (hn : n ≤ 1048576) (hr : Rd w lo hi 1 A n (i64s l)) (hX : Hid (l.contains a = X)) :
    Calls Tryz.prog 83 #[.slice A n c, .int .i64 a] w (Says (.bool X) w) := by
  have HR := Lib.hid hr
  have HL := Lib.hid (show l.length = n by simpa using hr.1)
  clear hr
  refine says_of_same ?_
  go_enter Tryz.func83, Tryz.ntmps83
  go_wp2_with fail
  go_loop [5] (fun i => ∃ k : Nat, k ≤ n ∧ i = .int .i64 k ∧ Hid ((l.take k).contains a = false)) (fun i => n - (intOf i).toNat)
  case atStart => exact ⟨0, Nat.zero_le _, rfl, Lib.hid (by simp)⟩
  case round =>
    obtain ⟨k, hk, rfl, HN⟩ := hrel
    by_cases hlt : k < n
    · obtain ⟨b, off, z, rfl, _, _, hz, hc⟩ := rd_int HR.out hlt
      by_cases e : z = a
      · have g : (z == a) = true := by simpa using e
        have HE := Lib.hid (show X = true by rw [← hX.out, ← e]; exact has_hit hz)
        clear hz e
        go_wp2_with fail
        go_ret
        exact ⟨by rw [HE.out]; rfl, rfl⟩
      · have g : (z == a) = false := by simpa using e
        have HE := Lib.hid (has_next HN.out hz e)
        clear hz e
        go_wp2_with fail
        go_round
        case rel => exact ⟨k + 1, by omega, by go_num, HE⟩
        case measure => simp [intOf]; omega
    · obtain rfl : k = n := by omega
      have HE := Lib.hid (show X = false by rw [← hX.out]; have h := HN.out; rwa [List.take_of_length_le (by rw [HL.out]; omega)] at h)
      go_wp2_with fail
      go_ret
      exact ⟨by rw [HE.out]; rfl, rfl⟩
set_option maxHeartbeats 4000000 in
theorem spec_l7Sees (l : List TNode) (A : Option Addr) (n c lo hi : Nat) (h : List Int) (A1 : Option Addr) (n1 c1 lo1 hi1 : Nat) (b : Int) (i : Nat) (w : World) (hn : n ≤ 1048576) (hr : Rd w lo hi 5 A n (cNode l)) (hcap : n ≤ c)
    (hn1 : n1 ≤ 1048576) (hr1 : Rd w lo1 hi1 1 A1 n1 (i64s h)) (hi0 : i < n) :
    Calls Tryz.prog 51 #[.slice A n c, .slice A1 n1 c1, .int .i64 b, .int .i64 (i : Int)] w (Says (.bool (mSees l h b i)) w) := by
  have HR := Lib.hid hr
  have HL := Lib.hid (rd_len TNode.len hr (by decide))
  have HR1 := Lib.hid hr1
  clear hr hr1
  generalize hS : mSees l h b i = S
  have HS := Lib.hid hS
  clear hS
  go_enter Tryz.func51, Tryz.ntmps51
  go_wp2_with fail
  go_loopw [3] (fun v wr => ∃ kI : Int, v = .int .i64 kI ∧ -1 ≤ kI ∧ kI ≤ i ∧ Hid (upF l h b (kI + 1).toNat kI = S) ∧ Below w.heap.size w wr) (fun v _ => (intOf v + 1).toNat)
  case atStart => exact ⟨i, rfl, by omega, by omega, Lib.hid (by rw [← HS.out]; rfl), Below.refl _ _⟩
  case round =>
    obtain ⟨kI, rfl, hk1, hk2, HU, hb⟩ := hrel
    have HB := Lib.hid hb
    have HRw := Lib.hid (HR.out.new hb)
    have HRh := Lib.hid (HR1.out.new hb)
    clear hb
    by_cases hk0 : 0 ≤ kI
    · obtain ⟨k, rfl⟩ := Int.eq_ofNat_of_zero_le hk0
      have hlt : k < n := by omega
      obtain ⟨bb, off, x, rfl, _, _, hz, hc⟩ := rd_elem TNode.len HRw.out HL.out hlt
      have c0 : wr.cell? ⟨bb, off + k * 5, none⟩ = _ := hc 0 _ rfl
      have c1' := hc 1 _ rfl
      have c2 := hc 2 _ rfl
      have c4 := hc 4 _ rfl
      have hbl : bb < wr.heap.size := World.block_lt_of_cell? wr _ c0
      have HZ := Lib.hid hz
      have hkc : k ≤ c := by omega
      have hc0 : ¬ c = 0 := by omega
      have HP := Lib.hid (take_rd (c := c) HRw.out (k := k) (by omega) HL.out)
      clear hz hc
      cases hh : h.contains x.f2 with
      | true =>
        by_cases e : x.f4 = b
        · have g : (x.f4 != b) = false := by simpa using e
          have HK := Lib.hid (show blk h b x = false by unfold blk; rw [g, Bool.and_false])
          have HM := Lib.hid (show upF l h b (mNodeOf (l.take k) x.f1 + 1).toNat (mNodeOf (l.take k) x.f1) = S by rw [upF_go HZ.out HK.out]; exact HU.out)
          have HH := Lib.hid hh
          clear e hh
          go_wp2_with fail
          refine (spec_l7Has h A1 n1 c1 lo1 hi1 x.f2 true _ hn1 HRh.out HH).mono ?_
          rintro e1 w1 ⟨rfl, hb1⟩
          obtain ⟨hc1, hf1⟩ := bcell hb1
          have HB1 := Lib.hid (below_trans HB.out hb1 (Nat.le_refl _))
          have HP1 := Lib.hid (HP.out.new hb1)
          have hbl1 : bb < w1.heap.size := by have := hb1.size; omega
          have d1 : w1.cell? ⟨bb, off + k * 5 + 1, none⟩ = some (.int .i64 x.f1) := by rw [hc1 _ _ hbl]; exact c1'
          have d4 : w1.cell? ⟨bb, off + k * 5 + 4, none⟩ = some (.int .i64 x.f4) := by rw [hc1 _ _ hbl]; exact c4
          clear hb1 hc1 hf1
          go_wp2_with fail
          go_quiet ((go_at_call 82; exact Calls.quiet_of_same ((spec_NodeOf' (l.take k) _ k c lo hi x.f1 _ (by omega) (HP1.out.drewN _)).mono fun _ _ ⟨a, b⟩ => ⟨a, b.symm⟩)))
          go_wp2_with fail
          go_roundw
          case rel => exact ⟨_, rfl, mNodeOf_ge _ _, by have := mNodeOf_lt l k x.f1; omega, HM, by first | exact below_dN HB1.out _ | exact HB1.out⟩
          case measure => have := mNodeOf_lt l k x.f1; have := mNodeOf_ge (l.take k) x.f1; simp [intOf]; omega
        · have g : (x.f4 != b) = true := by simpa using e
          have HE := Lib.hid (show S = false by rw [← HU.out]; exact upF_hid (f := k) HZ.out (by unfold blk; rw [hh, g]; rfl))
          have HH := Lib.hid hh
          clear e hh
          go_wp2_with fail
          refine (spec_l7Has h A1 n1 c1 lo1 hi1 x.f2 true _ hn1 HRh.out HH).mono ?_
          rintro e1 w1 ⟨rfl, hb1⟩
          obtain ⟨hc1, hf1⟩ := bcell hb1
          have HB1 := Lib.hid (below_trans HB.out hb1 (Nat.le_refl _))
          have d4 : w1.cell? ⟨bb, off + k * 5 + 4, none⟩ = some (.int .i64 x.f4) := by rw [hc1 _ _ hbl]; exact c4
          clear hb1 hc1 hf1
          go_wp2_with fail
          go_ret
          exact ⟨by rw [HE.out]; rfl, HB1.out⟩
      | false =>
        have HK := Lib.hid (show blk h b x = false by unfold blk; rw [hh, Bool.false_and])
        have HM := Lib.hid (show upF l h b (mNodeOf (l.take k) x.f1 + 1).toNat (mNodeOf (l.take k) x.f1) = S by rw [upF_go HZ.out HK.out]; exact HU.out)
        have HH := Lib.hid hh
        clear hh
        go_wp2_with fail
        refine (spec_l7Has h A1 n1 c1 lo1 hi1 x.f2 false _ hn1 HRh.out HH).mono ?_
        rintro e1 w1 ⟨rfl, hb1⟩
        obtain ⟨hc1, hf1⟩ := bcell hb1
        have HB1 := Lib.hid (below_trans HB.out hb1 (Nat.le_refl _))
        have HP1 := Lib.hid (HP.out.new hb1)
        have hbl1 : bb < w1.heap.size := by have := hb1.size; omega
        have d1 : w1.cell? ⟨bb, off + k * 5 + 1, none⟩ = some (.int .i64 x.f1) := by rw [hc1 _ _ hbl]; exact c1'
        clear hb1 hc1 hf1
        go_wp2_with fail
        go_quiet ((go_at_call 82; exact Calls.quiet_of_same ((spec_NodeOf' (l.take k) _ k c lo hi x.f1 _ (by omega) (HP1.out.drewN _)).mono fun _ _ ⟨a, b⟩ => ⟨a, b.symm⟩)))
        go_wp2_with fail
        go_roundw
        case rel => exact ⟨_, rfl, mNodeOf_ge _ _, by have := mNodeOf_lt l k x.f1; omega, HM, by first | exact below_dN HB1.out _ | exact HB1.out⟩
        case measure => have := mNodeOf_lt l k x.f1; have := mNodeOf_ge (l.take k) x.f1; simp [intOf]; omega
    · have hk0' : kI = -1 := by omega
      subst hk0'
      have HE := Lib.hid (show S = true by rw [← HU.out]; exact upF_neg (by decide))
      go_wp2_with fail
      go_ret
      exact ⟨by rw [HE.out]; rfl, HB.out⟩
set_option maxHeartbeats 4000000 in
theorem spec_SeenBy (l0 : List TNode) (A0 : Option Addr) (n0 c0 lo0 hi0 : Nat) (l1 : List Int) (A1 : Option Addr) (n1 c1 lo1 hi1 : Nat) (a2 : Int) (w : World) (h0 : n0 ≤ 1048576) (r0 : Rd w lo0 hi0 5 A0 n0 (cNode l0)) (p0 : n0 ≤ c0) (b0 : Hid (cNodeOk l0))
    (h1 : n1 ≤ 1048576) (r1 : Rd w lo1 hi1 1 A1 n1 (i64s l1)) (p1 : n1 ≤ c1) (b1 : Hid (I64s l1)) (w2 : (Lit.int .i64 a2).wf = true) :
    Calls Tryz.prog 20 #[.slice A0 n0 c0, .slice A1 n1 c1, .int .i64 a2] w (Makes 70 5 (mSeen l0 l1 a2).length (cNode (mSeen l0 l1 a2)) w) := by
  have HR := Lib.hid r0
  have HL := Lib.hid (rd_len TNode.len r0 (by decide))
  have HR1 := Lib.hid r1
  clear r0 r1 w2
  by_cases hd : mIsDoc l0 = true
  · have HD := Lib.hid hd
    have HE := Lib.hid (show mSeen l0 l1 a2 = seenTo l0 l1 a2 n0 by unfold mSeen; rw [if_pos hd, HL.out])
    have HN := Lib.hid (show ∀ k, (seenTo l0 l1 a2 k).length ≤ k from seenTo_len)
    clear hd
    go_enter Tryz.func20, Tryz.ntmps20
    go_wp2_with fail
    go_loopg [7, 8] n0 (fun gg v i wr => ∃ k : Nat, k ≤ n0 ∧ n0 - k ≤ gg ∧ i = .int .i64 k ∧ Hid (wr.ownsRow w.heap.size 70 5 v (seenTo l0 l1 a2 k).length (cNode (seenTo l0 l1 a2 k))) ∧ Hid (Below w.heap.size w wr))
    case atStart => exact ⟨0, Nat.zero_le _, by omega, rfl, Lib.hid (World.ownsRow_lit w #[] 0 (Nat.le_refl _) (by unfold maxLen; omega) rfl), Lib.hid ((Below.refl _ _).alloc (Nat.le_refl _) _)⟩
    case round =>
      obtain ⟨k, hk, hg, rfl, HO, HB⟩ := hrel
      have HRw := Lib.hid (HR.out.new HB.out)
      by_cases hlt : k < n0
      · obtain ⟨b, off, x, hA, _, _, hz, hc⟩ := rd_elem TNode.len HRw.out HL.out hlt
        have HZ := Lib.hid hz
        have HA := Lib.hid hA
        clear hz hc hA
        go_wp2_with fail
        refine (spec_IsDocument' l0 A0 n0 c0 lo0 hi0 _ (by omega) p0 HRw.out).mono ?_
        rintro e1 w1 ⟨rfl, hb1⟩
        rw [HD.out]
        have HB1 := Lib.hid (below_trans HB.out hb1 (Nat.le_refl _))
        have HO1 := Lib.hid (own_newer HO.out hb1)
        clear hb1
        go_wp2_with fail
        refine (spec_l7Sees l0 A0 n0 c0 lo0 hi0 l1 A1 n1 c1 lo1 hi1 a2 k _ h0 (HR.out.new HB1.out) p0 h1 (HR1.out.new HB1.out) hlt).mono ?_
        rintro e2 w2 ⟨rfl, hb2⟩
        have HB2 := Lib.hid (below_trans HB1.out hb2 (Nat.le_refl _))
        have HO2 := Lib.hid (own_newer HO1.out hb2)
        clear hb2 HB1 HO1
        obtain rfl := HA.out
        obtain ⟨b', off', x', hA, _, _, hz, hc⟩ := rd_elem TNode.len (HR.out.new HB2.out) HL.out hlt
        injection hA with hA
        injection hA with hA1 hA2 _
        subst hA1
        subst hA2
        have hxx : x = x' := Option.some.inj (HZ.out.symm.trans hz)
        subst hxx
        have k0 : w2.cell? ⟨b, off + k * 5, none⟩ = _ := hc 0 _ rfl
        have k1 := hc 1 _ rfl
        have k2 := hc 2 _ rfl
        have k3 := hc 3 _ rfl
        have k4 := hc 4 _ rfl
        have HS := Lib.hid HB2.out.size
        clear hz hc HB HO HRw
        cases hs : mSees l0 l1 a2 k with
        | true =>
          have H2 := Lib.hid (seenTo_some HZ.out hs)
          clear hs
          go_wp2_with (at_builtin; refine wp_app_lit rfl _ _ _ rfl w.heap.size 70 (.agg #[.int .i64 0, .int .i64 0, .int .i64 0, .int .i64 0, .int .i64 0]) 5 40 Tryz.underlying31 (by kernel_rfl) rfl (by decide) _ _ _ rfl HO2.out #[.int .i64 x.f0, .int .i64 x.f1, .int .i64 x.f2, .int .i64 x.f3, .int .i64 x.f4] 1 1 _ rfl (by simp) rfl (by intro u hu; simp at hu; rcases hu with rfl | rfl | rfl | rfl | rfl <;> rfl) (by have := HN.out k; unfold maxLen; omega) (by have := HN.out k; omega) (by have := HS.out; omega) ?_; intro v1 w3 ho1 hb3)
          have HO3 := Lib.hid (show w3.ownsRow w.heap.size 70 5 v1 (seenTo l0 l1 a2 (k + 1)).length (cNode (seenTo l0 l1 a2 (k + 1))) by rw [H2.out]; simpa [cNode, List.flatMap_append, TNode.cells] using ho1)
          have HB3 := Lib.hid (HB2.out.trans hb3)
          clear ho1 hb3
          go_wp2_with fail
          go_roundg (n0 - (k + 1))
          case measure => omega
          case rel => exact ⟨k + 1, by omega, by omega, by go_num, HO3, HB3⟩
        | false =>
          have H2 := Lib.hid (seenTo_none HZ.out hs)
          clear hs
          go_wp2_with fail
          go_roundg (n0 - (k + 1))
          case measure => omega
          case rel => exact ⟨k + 1, by omega, by omega, by go_num, by rw [H2.out]; exact HO2, HB2⟩
      · obtain rfl : k = n0 := by omega
        go_wp2_with fail
        go_ret
        rw [HE.out]
        exact makes_of_own HO.out HB.out
  · have hd : mIsDoc l0 = false := by simpa using hd
    have HE := Lib.hid (show mSeen l0 l1 a2 = [] by unfold mSeen; rw [hd]; rfl)
    have HD := Lib.hid hd
    clear hd
    go_enter Tryz.func20, Tryz.ntmps20
    go_wp2_with fail
    go_loopg [7, 8] 0 (fun gg v i wr => i = .int .i64 0 ∧ Hid (wr.ownsRow w.heap.size 70 5 v 0 []) ∧ Hid (Below w.heap.size w wr))
    case atStart => exact ⟨rfl, Lib.hid (World.ownsRow_lit w #[] 0 (Nat.le_refl _) (by unfold maxLen; omega) rfl), Lib.hid ((Below.refl _ _).alloc (Nat.le_refl _) _)⟩
    case round =>
      obtain ⟨rfl, HO, HB⟩ := hrel
      have HRw := Lib.hid (HR.out.new HB.out)
      by_cases hlt : 0 < n0
      · go_wp2_with fail
        refine (spec_IsDocument' l0 A0 n0 c0 lo0 hi0 _ (by omega) p0 HRw.out).mono ?_
        rintro e1 w1 ⟨rfl, hb1⟩
        rw [HD.out]
        have HB1 := Lib.hid (below_trans HB.out hb1 (Nat.le_refl _))
        have HO1 := Lib.hid (own_newer HO.out hb1)
        clear hb1
        go_wp2_with fail
        go_ret
        rw [HE.out]
        exact makes_of_own HO1.out HB1.out
      · go_wp2_with fail
        go_ret
        rw [HE.out]
        exact makes_of_own HO.out HB.out
end Go.Proofs.YtjgcgipglmhgeaaGreat
namespace Go.Proofs.YtjgcgipglmhgeaaGreat
open Go Go.ChangeShapes Go.WideShapes Go.ChangeAt Go.RowKit Go.Lib
set_option linter.unusedVariables false
set_option linter.unusedSimpArgs false
set_option maxRecDepth 100000

theorem any_contains (l : List Int) (z : Int) : (l.any fun x => decide (z = x)) = l.contains z := by
  rw [Bool.eq_iff_iff]; simp
section
variable {w w' : World} {b n lo hi : Nat} {f : Int → Option Int} {s : Int → Bool}
theorem MapAt.chg (h : MapAt w b n f) (hc : Chg lo hi w w') (hd : ¬ (lo ≤ b ∧ b < hi)) : MapAt w' b n f := h.keep (hc.block b h.lt hd)
theorem MapB.chg (h : MapB w b n s) (hc : Chg lo hi w w') (hd : ¬ (lo ≤ b ∧ b < hi)) : MapB w' b n s := h.keep (hc.block b h.lt hd)
theorem MapB.alloc_ (h : MapB w b n s) (o : Obj) : MapB (w.alloc o) b n s := h.keep (Below.heap_alloc w o b h.lt)
end
/-- What the walk reads: the boxes that it has captured, the index of the nodes, the nodes and what is hidden. Block M is the map that it writes. -/
structure WalkAt (w : World) (l : List TNode) (A : Option Addr) (n c : Nat) (h : List Int) (A1 : Option Addr) (n1 c1 : Nat) (b : Int) (D S Y Hd W B M : Nat) : Prop where
  d : BoxAt w D 31 #[.slice A n c]
  s : BoxAt w S 134 #[.slice A n c, .map (some B), .map (some M)]
  y : BoxAt w Y 3 #[.int .i64 b]
  p : BoxAt w Hd 59 #[.slice A1 n1 c1]
  f : BoxAt w W 167 #[.func (.func 99) #[] #[.pointer (some ⟨D, 0, none⟩), .pointer (some ⟨S, 0, none⟩), .pointer (some ⟨Y, 0, none⟩), .pointer (some ⟨Hd, 0, none⟩), .pointer (some ⟨W, 0, none⟩)]]
  i : MapAt w B n (idx l)
  r : Rd w 0 M 5 A n (cNode l)
  q : Rd w 0 M 1 A1 n1 (i64s h)
  nd : D ≠ M ∧ S ≠ M ∧ Y ≠ M ∧ Hd ≠ M ∧ W ≠ M ∧ B ≠ M
section
variable {w w' : World} {l : List TNode} {A A1 : Option Addr} {n c n1 c1 : Nat} {h : List Int} {b : Int} {D S Y Hd W B M : Nat}
theorem WalkAt.chg (k : WalkAt w l A n c h A1 n1 c1 b D S Y Hd W B M) (hc : Chg M (M + 1) w w') : WalkAt w' l A n c h A1 n1 c1 b D S Y Hd W B M := by
  obtain ⟨h1, h2, h3, h4, h5, h6⟩ := k.nd
  exact ⟨k.d.chg hc (by omega), k.s.chg hc (by omega), k.y.chg hc (by omega), k.p.chg hc (by omega), k.f.chg hc (by omega), k.i.chg hc (by omega), k.r.chg hc (.inl (Nat.le_refl _)), k.q.chg hc (.inl (Nat.le_refl _)), k.nd⟩
theorem WalkAt.new (k : WalkAt w l A n c h A1 n1 c1 b D S Y Hd W B M) (hb : Below w.heap.size w w') : WalkAt w' l A n c h A1 n1 c1 b D S Y Hd W B M := k.chg (chg_of_new hb)
end
/-- The walk from place i has put into block M just what is seen there. -/
def Walked (l : List TNode) (h : List Int) (b : Int) (i M f k0 : Nat) (s : Int → Bool) (w : World) (e : Ending) (w' : World) : Prop :=
  ∃ (k1 : Nat) (s1 : Int → Bool), e = .returned (.tuple #[]) ∧ MapB w' M k1 s1 ∧ k1 ≤ k0 + bnd f ∧ (∀ id, s1 id = true ↔ (s id = true ∨ SeenId l h b i id)) ∧ Chg M (M + 1) w w'
theorem put_seen {s s1 : Int → Bool} {x : Int} {P : Int → Prop} (h : ∀ id, s1 id = true ↔ ((if id = x then true else s id) = true ∨ P id)) (id : Int) : s1 id = true ↔ (s id = true ∨ (id = x ∨ P id)) := by
  rw [h]
  by_cases e : id = x
  · simp [e]
  · simp [e]
set_option maxHeartbeats 8000000 in
theorem walk_any (l : List TNode) (A : Option Addr) (n c : Nat) (h : List Int) (A1 : Option Addr) (n1 c1 : Nat) (b : Int) (D S Y Hd W B M : Nat) (hd : Hid (mIsDoc l = true)) (hok : Hid (cNodeOk l)) (hn16 : n ≤ 16) (hn1 : n1 ≤ 1048576) :
    ∀ (f i : Nat) (x : TNode) (k0 : Nat) (s : Int → Bool) (w : World), 16 - i ≤ f → l[i]? = some x → WalkAt w l A n c h A1 n1 c1 b D S Y Hd W B M → MapB w M k0 s → k0 + bnd f ≤ maxLen →
    Calls Tryz.prog 99 #[.int .i64 x.f0, .pointer (some ⟨D, 0, none⟩), .pointer (some ⟨S, 0, none⟩), .pointer (some ⟨Y, 0, none⟩), .pointer (some ⟨Hd, 0, none⟩), .pointer (some ⟨W, 0, none⟩)] w (Walked l h b i M f k0 s w) := by
  intro f
  induction f with
  | zero =>
    intro i x k0 s w hf hx hW hM hk
    have h1 := (List.getElem?_eq_some_iff.1 hx).1
    have h2 := rd_len TNode.len hW.r (by decide)
    omega
  | succ f ih =>
    intro i x k0 s w hf hx hW hM hk
    have HIH := Lib.hid ih
    have HL := Lib.hid (rd_len TNode.len hW.r (by decide))
    have hin : i < n := by have := (List.getElem?_eq_some_iff.1 hx).1; have := HL.out; omega
    have HX := Lib.hid hx
    have HW0 := Lib.hid hW
    have HM0 := Lib.hid hM
    have HK := Lib.hid (show k0 + (1 + 16 * bnd f) ≤ maxLen from hk)
    have hk0 : k0 < maxLen := by have := HK.out; omega
    have HF := Lib.hid hf
    have WX := Lib.hid (node_wf hok.out hx).1
    have gi : (idx l x.f0).getD 0 = (i : Int) := by rw [doc_self hd.out hx]; rfl
    have HKL := Lib.hid (show (mChildren l x.f0).length ≤ 16 by have := mChildren_len l x.f0; have := HL.out; omega)
    obtain ⟨bb, off, x', rfl, _, hbM, hz, hc⟩ := rd_elem TNode.len hW.r HL.out hin
    obtain rfl : x = x' := Option.some.inj (hx.symm.trans hz)
    have e0 : w.cell? ⟨bb, off + i * 5, none⟩ = _ := hc 0 _ rfl
    have e1 := hc 1 _ rfl
    have e2 := hc 2 _ rfl
    have e3 := hc 3 _ rfl
    have e4 := hc 4 _ rfl
    have kd := hW.d.at_ (j := 0) (u := .slice (some ⟨bb, off, none⟩) n c) rfl
    have ks0 := hW.s.at_ (j := 0) (u := .slice (some ⟨bb, off, none⟩) n c) rfl
    have ks1 := hW.s.at_ (j := 1) (u := .map (some B)) rfl
    have ks2 := hW.s.at_ (j := 2) (u := .map (some M)) rfl
    have ky := hW.y.at_ (j := 0) (u := .int .i64 b) rfl
    have kh := hW.p.at_ (j := 0) (u := .slice A1 n1 c1) rfl
    have hYl := hW.y.lt
    have hHl := hW.p.lt
    have hSl := hW.s.lt
    have hDl := hW.d.lt
    have hWl := hW.f.lt
    have hMl := hM.lt
    have HMI := Lib.hid hW.i
    clear ih hx hW hM hk hf hz hc
    by_cases e : x.f4 = b
    · have g : (x.f4 != b) = false := by simpa using e
      have hbk : blk h b x = false := by unfold blk; rw [g, Bool.and_false]
      clear e
      have HBK := Lib.hid hbk
      clear hbk
      go_enter Tryz.func99, Tryz.ntmps99
      go_wp2_with (first
        | (at_lookup; refine wp_look rfl _ _ _ rfl Tryz.underlying129 B n _ rfl HMI.out x.f0 rfl WX.out ?_)
        | (at_mapUpdate; refine wp_mapb_put rfl _ _ _ _ rfl Tryz.underlying132 M k0 s rfl (HM0.out.alloc_ _) hk0 x.f0 true rfl rfl WX.out ?_; intro w2 hm2 hg2; have HM2 := Lib.hid hm2; have HC2 := Lib.hid (((Chg.refl M (M + 1) w).alloc (.cells #[.int .i64 x.f0, .int .i64 x.f1, .int .i64 x.f2, .int .i64 x.f3, .int .i64 x.f4] 70)).trans (chg_of_grown hg2)); have HW2 := Lib.hid (HW0.out.chg HC2.out); have kd2 := HW2.out.d.at_ (j := 0) (u := .slice (some ⟨bb, off, none⟩) n c) rfl; clear hm2 hg2)
        | (go_at_call 101; refine (impl_ChildrenOf l (some ⟨bb, off, none⟩) n c 0 M x.f0 _ (by omega) HW2.out.r hok WX.out).mono ?_; rintro e3 w3 ⟨A3, c3, rfl, hF3, hb3⟩))
      have HM3 := Lib.hid (HM2.out.new hb3)
      have HC3 := Lib.hid (HC2.out.trans (chg_of_new hb3))
      have HW3 := Lib.hid (HW2.out.new hb3)
      have hlo : M + 1 ≤ w2.heap.size := by have := HM2.out.lt; omega
      have HCh := Lib.hid hF3.rd
      have HKN := Lib.hid (show (mChildren l x.f0).length = (mChildren l x.f0).length from rfl)
      generalize hnc : (mChildren l x.f0).length = nc at HCh HKL HKN hF3
      have HNC := Lib.hid hnc
      have hnc16 : nc ≤ 16 := HKL.out
      clear hb3 hF3 kd2 hnc kd ks0 ks1 ks2 ky kh e0 e1 e2 e3 e4
      go_wp2_with fail
      go_loopw [35] (fun v wr => ∃ (t k1 : Nat) (s1 : Int → Bool), v = .int .i64 t ∧ t ≤ nc ∧ Hid (MapB wr M k1 s1) ∧ Hid (k1 ≤ k0 + 1 + t * bnd f) ∧ Hid (∀ id, s1 id = true ↔ ((if id = x.f0 then true else s id) = true ∨ SeenKids l h b ((mChildren l x.f0).take t) id)) ∧ Hid (Chg M (M + 1) w3 wr)) (fun v _ => nc - (intOf v).toNat)
      case atStart => exact ⟨0, k0 + 1, _, rfl, Nat.zero_le _, HM3, Lib.hid (by omega), Lib.hid (fun id => ⟨.inl, fun h => h.elim (fun h => h) (fun h => absurd h (kids_nil id))⟩), Lib.hid (Chg.refl _ _ _)⟩
      case round =>
        obtain ⟨t, k1, s1, rfl, ht, HMr, HKr, HSr, HCr⟩ := hrel
        have HWr := Lib.hid (HW3.out.chg HCr.out)
        have kf := HWr.out.f.at_ (j := 0) (u := .func (.func 99) #[] #[.pointer (some ⟨D, 0, none⟩), .pointer (some ⟨S, 0, none⟩), .pointer (some ⟨Y, 0, none⟩), .pointer (some ⟨Hd, 0, none⟩), .pointer (some ⟨W, 0, none⟩)]) rfl
        by_cases hlt : t < nc
        · obtain ⟨bc, offc, z, rfl, _, _, hz, hcz⟩ := rd_int (HCh.out.chg HCr.out (.inr (.inl hlo))) hlt
          obtain ⟨ci, hci, hic, hcl⟩ := kid_at hd.out HX.out (List.mem_of_getElem? hz)
          obtain ⟨ci', y, hcc, _, hy, hyz⟩ := idx_lt hci
          obtain rfl := Int.ofNat.inj hcc
          subst hyz
          have HY := Lib.hid hy
          have HCI := Lib.hid hci
          have HZ := Lib.hid hz
          have hfi : 16 - ci ≤ f := by have := HF.out; omega
          have HKB := Lib.hid (show k1 + bnd f ≤ maxLen by
            have h1 := HKr.out; have h2 := HK.out; have h3 := HKL.out
            have h4 : (t + 1) * bnd f ≤ 16 * bnd f := Nat.mul_le_mul_right _ (by omega)
            rw [Nat.succ_mul] at h4
            omega)
          clear hz hy hci hic hcl hcc
          go_wp2_with (go_at_call 99; refine (HIH.out ci y k1 s1 _ hfi HY.out HWr.out HMr.out HKB.out).mono ?_; rintro e4 w4 ⟨k2, s2, rfl, hm4, hk4, hs4, hc4⟩)
          go_roundw
          case rel =>
            refine ⟨t + 1, k2, s2, by go_num, by omega, Lib.hid hm4, Lib.hid ?_, Lib.hid ?_, Lib.hid (HCr.out.trans hc4)⟩
            · have h1 := HKr.out; rw [Nat.succ_mul]; omega
            · intro id; rw [hs4, HSr.out id, kids_snoc HZ.out HCI.out id]; exact or_assoc
          case measure => simp [intOf]; omega
        · obtain rfl : t = nc := by omega
          go_wp2_with fail
          first | go_ret | (refine bodyPost_end (v := .tuple #[]) (by simp [results, Tryz.results99, go_sem]) rfl ?_)
          refine ⟨k1, s1, rfl, HMr.out, ?_, ?_, HC3.out.trans HCr.out⟩
          · have h1 := HKr.out; have h3 := HKL.out
            have h4 : t * bnd f ≤ 16 * bnd f := Nat.mul_le_mul_right _ h3
            show k1 ≤ k0 + (1 + 16 * bnd f)
            omega
          · intro id
            rw [seen_kids hd.out HX.out HBK.out id]
            refine put_seen (P := fun id => SeenKids l h b (mChildren l x.f0) id) ?_ id
            intro id
            have h1 := HSr.out id
            rwa [List.take_of_length_le (by rw [HNC.out]; exact Nat.le_refl _)] at h1
    · have g : (x.f4 != b) = true := by simpa using e
      clear e
      cases hh : h.contains x.f2 with
      | true =>
        have hbk : blk h b x = true := by unfold blk; rw [hh, g]; rfl
        have HBK := Lib.hid hbk
        have HH := Lib.hid hh
        clear hbk hh
        go_enter Tryz.func99, Tryz.ntmps99
        go_wp2_with (first | (at_lookup; refine wp_look rfl _ _ _ rfl Tryz.underlying129 B n _ rfl HMI.out x.f0 rfl WX.out ?_) | (go_at_call 100; refine (contains_Int x.f2 h A1 n1 c1 0 M _ (by omega) (HW0.out.q.alloc _)).mono ?_; rintro e9 w1 ⟨rfl, hb1⟩; rw [any_contains, HH.out]; have HC1 := Lib.hid (((Chg.refl M (M + 1) w).alloc (.cells #[.int .i64 x.f0, .int .i64 x.f1, .int .i64 x.f2, .int .i64 x.f3, .int .i64 x.f4] 70)).trans (chg_of_new hb1)); have HM1 := Lib.hid ((HM0.out.alloc_ (.cells #[.int .i64 x.f0, .int .i64 x.f1, .int .i64 x.f2, .int .i64 x.f3, .int .i64 x.f4] 70)).new hb1); have HW1 := Lib.hid (HW0.out.chg HC1.out); have kz2 := HW1.out.s.at_ (j := 2) (u := .map (some M)) rfl; clear hb1))
        go_wp2_with fail
        first | go_ret | (refine bodyPost_end (v := .tuple #[]) (by simp [results, Tryz.results99, go_sem]) rfl ?_)
        exact ⟨k0, s, rfl, HM1.out, Nat.le_add_right _ _, fun id => ⟨.inl, fun h => h.elim (fun h => h) (fun h => absurd h (seen_hid HX.out HBK.out id))⟩, HC1.out⟩
      | false =>
        have hbk : blk h b x = false := by unfold blk; rw [hh, Bool.false_and]
        have HH := Lib.hid hh
        clear hh
        have HBK := Lib.hid hbk
        clear hbk
        go_enter Tryz.func99, Tryz.ntmps99
        go_wp2_with (first | (at_lookup; refine wp_look rfl _ _ _ rfl Tryz.underlying129 B n _ rfl HMI.out x.f0 rfl WX.out ?_) | (go_at_call 100; refine (contains_Int x.f2 h A1 n1 c1 0 M _ (by omega) (HW0.out.q.alloc _)).mono ?_; rintro e9 w1 ⟨rfl, hb1⟩; rw [any_contains, HH.out]; have HC1 := Lib.hid (((Chg.refl M (M + 1) w).alloc (.cells #[.int .i64 x.f0, .int .i64 x.f1, .int .i64 x.f2, .int .i64 x.f3, .int .i64 x.f4] 70)).trans (chg_of_new hb1)); have HM1 := Lib.hid ((HM0.out.alloc_ (.cells #[.int .i64 x.f0, .int .i64 x.f1, .int .i64 x.f2, .int .i64 x.f3, .int .i64 x.f4] 70)).new hb1); have HW1 := Lib.hid (HW0.out.chg HC1.out); have kz2 := HW1.out.s.at_ (j := 2) (u := .map (some M)) rfl; clear hb1) | (at_mapUpdate; refine wp_mapb_put rfl _ _ _ _ rfl Tryz.underlying132 M k0 s rfl HM1.out hk0 x.f0 true rfl rfl WX.out ?_; intro w2 hm2 hg2; have HM2 := Lib.hid hm2; have HC2 := Lib.hid (HC1.out.trans (chg_of_grown hg2)); have HW2 := Lib.hid (HW0.out.chg HC2.out); have kd2 := HW2.out.d.at_ (j := 0) (u := .slice (some ⟨bb, off, none⟩) n c) rfl; clear hm2 hg2) | (go_at_call 101; refine (impl_ChildrenOf l (some ⟨bb, off, none⟩) n c 0 M x.f0 _ (by omega) HW2.out.r hok WX.out).mono ?_; rintro e3 w3 ⟨A3, c3, rfl, hF3, hb3⟩))
        have HM3 := Lib.hid (HM2.out.new hb3)
        have HC3 := Lib.hid (HC2.out.trans (chg_of_new hb3))
        have HW3 := Lib.hid (HW2.out.new hb3)
        have hlo : M + 1 ≤ w2.heap.size := by have := HM2.out.lt; omega
        have HCh := Lib.hid hF3.rd
        have HKN := Lib.hid (show (mChildren l x.f0).length = (mChildren l x.f0).length from rfl)
        generalize hnc : (mChildren l x.f0).length = nc at HCh HKL HKN hF3
        have HNC := Lib.hid hnc
        have hnc16 : nc ≤ 16 := HKL.out
        clear hb3 hF3 kd2 hnc kd ks0 ks1 ks2 ky kh e0 e1 e2 e3 e4
        go_wp2_with fail
        go_loopw [35] (fun v wr => ∃ (t k1 : Nat) (s1 : Int → Bool), v = .int .i64 t ∧ t ≤ nc ∧ Hid (MapB wr M k1 s1) ∧ Hid (k1 ≤ k0 + 1 + t * bnd f) ∧ Hid (∀ id, s1 id = true ↔ ((if id = x.f0 then true else s id) = true ∨ SeenKids l h b ((mChildren l x.f0).take t) id)) ∧ Hid (Chg M (M + 1) w3 wr)) (fun v _ => nc - (intOf v).toNat)
        case atStart => exact ⟨0, k0 + 1, _, rfl, Nat.zero_le _, HM3, Lib.hid (by omega), Lib.hid (fun id => ⟨.inl, fun h => h.elim (fun h => h) (fun h => absurd h (kids_nil id))⟩), Lib.hid (Chg.refl _ _ _)⟩
        case round =>
          obtain ⟨t, k1, s1, rfl, ht, HMr, HKr, HSr, HCr⟩ := hrel
          have HWr := Lib.hid (HW3.out.chg HCr.out)
          have kf := HWr.out.f.at_ (j := 0) (u := .func (.func 99) #[] #[.pointer (some ⟨D, 0, none⟩), .pointer (some ⟨S, 0, none⟩), .pointer (some ⟨Y, 0, none⟩), .pointer (some ⟨Hd, 0, none⟩), .pointer (some ⟨W, 0, none⟩)]) rfl
          by_cases hlt : t < nc
          · obtain ⟨bc, offc, z, rfl, _, _, hz, hcz⟩ := rd_int (HCh.out.chg HCr.out (.inr (.inl hlo))) hlt
            obtain ⟨ci, hci, hic, hcl⟩ := kid_at hd.out HX.out (List.mem_of_getElem? hz)
            obtain ⟨ci', y, hcc, _, hy, hyz⟩ := idx_lt hci
            obtain rfl := Int.ofNat.inj hcc
            subst hyz
            have HY := Lib.hid hy
            have HCI := Lib.hid hci
            have HZ := Lib.hid hz
            have hfi : 16 - ci ≤ f := by have := HF.out; omega
            have HKB := Lib.hid (show k1 + bnd f ≤ maxLen by
              have h1 := HKr.out; have h2 := HK.out; have h3 := HKL.out
              have h4 : (t + 1) * bnd f ≤ 16 * bnd f := Nat.mul_le_mul_right _ (by omega)
              rw [Nat.succ_mul] at h4
              omega)
            clear hz hy hci hic hcl hcc
            go_wp2_with (go_at_call 99; refine (HIH.out ci y k1 s1 _ hfi HY.out HWr.out HMr.out HKB.out).mono ?_; rintro e4 w4 ⟨k2, s2, rfl, hm4, hk4, hs4, hc4⟩)
            go_roundw
            case rel =>
              refine ⟨t + 1, k2, s2, by go_num, by omega, Lib.hid hm4, Lib.hid ?_, Lib.hid ?_, Lib.hid (HCr.out.trans hc4)⟩
              · have h1 := HKr.out; rw [Nat.succ_mul]; omega
              · intro id; rw [hs4, HSr.out id, kids_snoc HZ.out HCI.out id]; exact or_assoc
            case measure => simp [intOf]; omega
          · obtain rfl : t = nc := by omega
            go_wp2_with fail
            first | go_ret | (refine bodyPost_end (v := .tuple #[]) (by simp [results, Tryz.results99, go_sem]) rfl ?_)
            refine ⟨k1, s1, rfl, HMr.out, ?_, ?_, HC3.out.trans HCr.out⟩
            · have h1 := HKr.out; have h3 := HKL.out
              have h4 : t * bnd f ≤ 16 * bnd f := Nat.mul_le_mul_right _ h3
              show k1 ≤ k0 + (1 + 16 * bnd f)
              omega
            · intro id
              rw [seen_kids hd.out HX.out HBK.out id]
              refine put_seen (P := fun id => SeenKids l h b (mChildren l x.f0) id) ?_ id
              intro id
              have h1 := HSr.out id
              rwa [List.take_of_length_le (by rw [HNC.out]; exact Nat.le_refl _)] at h1
end Go.Proofs.YtjgcgipglmhgeaaGreat
namespace Go.Proofs.YtjgcgipglmhgeaaGreat
open Go Go.ChangeShapes Go.WideShapes Go.ChangeAt Go.RowKit Go.Lib
set_option linter.unusedVariables false
set_option linter.unusedSimpArgs false
set_option maxRecDepth 100000

/-- The Ids that are seen, as the program's map has them. -/
def mLook (l : List TNode) (h : List Int) (b : Int) (id : Int) : Bool := (idx (mSeen l h b) id).isSome
/-- What look answers. -/
def Looks (l : List TNode) (A : Option Addr) (n c : Nat) (h : List Int) (b : Int) (w : World) (e : Ending) (w' : World) : Prop :=
  ∃ B M k, e = .returned (.agg #[.slice A n c, .map (some B), .map (some M)]) ∧ MapAt w' B n (idx l) ∧ MapB w' M k (mLook l h b) ∧ w.heap.size ≤ B ∧ w.heap.size ≤ M ∧ Below w.heap.size w w'
theorem store_func (W : World) (a : Addr) (g : Nat) (cs : Array Value) (m : Mode) : (store a (.func (.func g) #[] cs) m).run Tryz.prog W = stored Tryz.prog W a (.func (.func g) #[] cs) m := run_store Tryz.prog W a _ m rfl
set_option maxHeartbeats 8000000 in
theorem look_any (l : List TNode) (A : Option Addr) (n c lo hi : Nat) (h : List Int) (A1 : Option Addr) (n1 c1 lo1 hi1 : Nat) (b : Int) (w : World) (hn : n ≤ 1048576) (hr : Rd w lo hi 5 A n (cNode l)) (hok : Hid (cNodeOk l)) (hn1 : n1 ≤ 1048576) (hr1 : Rd w lo1 hi1 1 A1 n1 (i64s h)) :
    Calls Tryz.prog 63 #[.slice A n c, .slice A1 n1 c1, .int .i64 b] w (Looks l A n c h b w) := by
  have HL := Lib.hid (rd_len TNode.len hr (by decide))
  have HR := Lib.hid (((((hr.old (by decide)).alloc (.cells #[.slice A n c] 31)).alloc (.cells #[.slice A1 n1 c1] 59)).alloc (.cells #[.int .i64 b] 3)).alloc (.cells #[.slice none 0 0, .map none, .map none] 134))
  have HR1 := Lib.hid (((((hr1.old (by decide)).alloc (.cells #[.slice A n c] 31)).alloc (.cells #[.slice A1 n1 c1] 59)).alloc (.cells #[.int .i64 b] 3)).alloc (.cells #[.slice none 0 0, .map none, .map none] 134))
  have KD : Hid (BoxAt ((((w.alloc (.cells #[.slice A n c] 31)).alloc (.cells #[.slice A1 n1 c1] 59)).alloc (.cells #[.int .i64 b] 3)).alloc (.cells #[.slice none 0 0, .map none, .map none] 134)) (w.heap.size) 31 #[.slice A n c]) := Lib.hid (by simpa using ((((box_new w 31 #[.slice A n c]).alloc_ (.cells #[.slice A1 n1 c1] 59)).alloc_ (.cells #[.int .i64 b] 3)).alloc_ (.cells #[.slice none 0 0, .map none, .map none] 134)))
  have KH : Hid (BoxAt ((((w.alloc (.cells #[.slice A n c] 31)).alloc (.cells #[.slice A1 n1 c1] 59)).alloc (.cells #[.int .i64 b] 3)).alloc (.cells #[.slice none 0 0, .map none, .map none] 134)) (w.heap.size + 1) 59 #[.slice A1 n1 c1]) := Lib.hid (by simpa using (((box_new (w.alloc (.cells #[.slice A n c] 31)) 59 #[.slice A1 n1 c1]).alloc_ (.cells #[.int .i64 b] 3)).alloc_ (.cells #[.slice none 0 0, .map none, .map none] 134)))
  have KY : Hid (BoxAt ((((w.alloc (.cells #[.slice A n c] 31)).alloc (.cells #[.slice A1 n1 c1] 59)).alloc (.cells #[.int .i64 b] 3)).alloc (.cells #[.slice none 0 0, .map none, .map none] 134)) (w.heap.size + 1 + 1) 3 #[.int .i64 b]) := Lib.hid (by simpa using ((box_new ((w.alloc (.cells #[.slice A n c] 31)).alloc (.cells #[.slice A1 n1 c1] 59)) 3 #[.int .i64 b]).alloc_ (.cells #[.slice none 0 0, .map none, .map none] 134)))
  have KR : Hid (BoxAt ((((w.alloc (.cells #[.slice A n c] 31)).alloc (.cells #[.slice A1 n1 c1] 59)).alloc (.cells #[.int .i64 b] 3)).alloc (.cells #[.slice none 0 0, .map none, .map none] 134)) (w.heap.size + 1 + 1 + 1) 134 #[.slice none 0 0, .map none, .map none]) := Lib.hid (by simpa using (box_new (((w.alloc (.cells #[.slice A n c] 31)).alloc (.cells #[.slice A1 n1 c1] 59)).alloc (.cells #[.int .i64 b] 3)) 134 #[.slice none 0 0, .map none, .map none]))
  have HB0 : Hid (Below w.heap.size w ((((w.alloc (.cells #[.slice A n c] 31)).alloc (.cells #[.slice A1 n1 c1] 59)).alloc (.cells #[.int .i64 b] 3)).alloc (.cells #[.slice none 0 0, .map none, .map none] 134))) := Lib.hid (by repeat (first | exact Below.refl _ _ | (refine Below.alloc ?_ (by simp <;> omega) _)))
  have HS0 : Hid (((((w.alloc (.cells #[.slice A n c] 31)).alloc (.cells #[.slice A1 n1 c1] 59)).alloc (.cells #[.int .i64 b] 3)).alloc (.cells #[.slice none 0 0, .map none, .map none] 134)).heap.size = w.heap.size + 4) := Lib.hid (by simp)
  have hst := fun (W : World) (a : Addr) (cs : Array Value) (m : Mode) => store_func W a 99 cs m
  have hmm := make_map_none Tryz.underlying132
  clear hr hr1
  go_enter Tryz.func63, Tryz.ntmps63
  go_wp2_with fail
  generalize ((((w.alloc (.cells #[.slice A n c] 31)).alloc (.cells #[.slice A1 n1 c1] 59)).alloc (.cells #[.int .i64 b] 3)).alloc (.cells #[.slice none 0 0, .map none, .map none] 134)) = V at KD KH KY KR HB0 HS0 HR HR1 ⊢
  refine (newPage_any l A n c 0 w.heap.size V (by omega) HR.out hok).mono ?_
  rintro e1 w1 ⟨B, rfl, hB, hM, hb1⟩
  have KD1 := Lib.hid (KD.out.new hb1)
  have KH1 := Lib.hid (KH.out.new hb1)
  have KY1 := Lib.hid (KY.out.new hb1)
  have KR1 := Lib.hid (KR.out.new hb1)
  have HM1 := Lib.hid hM
  have HRa := Lib.hid (HR.out.new hb1)
  have HRb := Lib.hid (HR1.out.new hb1)
  have HB1 := Lib.hid (HB0.out.trans (hb1.mono (by have := HS0.out; omega)))
  have hs1 : w.heap.size + 4 ≤ w1.heap.size := by have := HS0.out; have := hb1.size; omega
  have hD1 : w.heap.size < w1.heap.size := by omega
  have hBl : B < w1.heap.size := hM.lt
  have hB0 : w.heap.size + 4 ≤ B := by have := HS0.out; omega
  have kd1 := KD1.out.at_ (j := 0) (u := .slice A n c) rfl
  clear hb1 hM hB KD KH KY KR HR HR1
  have HW : Hid (WalkAt (((w1.alloc (.map #[] 0)).alloc (.cells #[.slice A n c, .map (some B), .map (some w1.heap.size)] 134)).alloc (.cells #[(.func (.func 99) #[] #[.pointer (some ⟨w.heap.size, 0, none⟩), .pointer (some ⟨w1.heap.size + 1, 0, none⟩), .pointer (some ⟨w.heap.size + 1 + 1, 0, none⟩), .pointer (some ⟨w.heap.size + 1, 0, none⟩), .pointer (some ⟨w1.heap.size + 1 + 1, 0, none⟩)])] 167)) l A n c h A1 n1 c1 b w.heap.size (w1.heap.size + 1) (w.heap.size + 1 + 1) (w.heap.size + 1) (w1.heap.size + 1 + 1) B w1.heap.size) := Lib.hid ⟨(((KD1.out.alloc_ (.map #[] 0)).alloc_ (.cells #[.slice A n c, .map (some B), .map (some w1.heap.size)] 134)).alloc_ (.cells #[(.func (.func 99) #[] #[.pointer (some ⟨w.heap.size, 0, none⟩), .pointer (some ⟨w1.heap.size + 1, 0, none⟩), .pointer (some ⟨w.heap.size + 1 + 1, 0, none⟩), .pointer (some ⟨w.heap.size + 1, 0, none⟩), .pointer (some ⟨w1.heap.size + 1 + 1, 0, none⟩)])] 167)), by simpa using (box_new (w1.alloc (.map #[] 0)) 134 #[.slice A n c, .map (some B), .map (some w1.heap.size)]).alloc_ (.cells #[(.func (.func 99) #[] #[.pointer (some ⟨w.heap.size, 0, none⟩), .pointer (some ⟨w1.heap.size + 1, 0, none⟩), .pointer (some ⟨w.heap.size + 1 + 1, 0, none⟩), .pointer (some ⟨w.heap.size + 1, 0, none⟩), .pointer (some ⟨w1.heap.size + 1 + 1, 0, none⟩)])] 167), (((KY1.out.alloc_ (.map #[] 0)).alloc_ (.cells #[.slice A n c, .map (some B), .map (some w1.heap.size)] 134)).alloc_ (.cells #[(.func (.func 99) #[] #[.pointer (some ⟨w.heap.size, 0, none⟩), .pointer (some ⟨w1.heap.size + 1, 0, none⟩), .pointer (some ⟨w.heap.size + 1 + 1, 0, none⟩), .pointer (some ⟨w.heap.size + 1, 0, none⟩), .pointer (some ⟨w1.heap.size + 1 + 1, 0, none⟩)])] 167)), (((KH1.out.alloc_ (.map #[] 0)).alloc_ (.cells #[.slice A n c, .map (some B), .map (some w1.heap.size)] 134)).alloc_ (.cells #[(.func (.func 99) #[] #[.pointer (some ⟨w.heap.size, 0, none⟩), .pointer (some ⟨w1.heap.size + 1, 0, none⟩), .pointer (some ⟨w.heap.size + 1 + 1, 0, none⟩), .pointer (some ⟨w.heap.size + 1, 0, none⟩), .pointer (some ⟨w1.heap.size + 1 + 1, 0, none⟩)])] 167)), by simpa using box_new ((w1.alloc (.map #[] 0)).alloc (.cells #[.slice A n c, .map (some B), .map (some w1.heap.size)] 134)) 167 #[(.func (.func 99) #[] #[.pointer (some ⟨w.heap.size, 0, none⟩), .pointer (some ⟨w1.heap.size + 1, 0, none⟩), .pointer (some ⟨w.heap.size + 1 + 1, 0, none⟩), .pointer (some ⟨w.heap.size + 1, 0, none⟩), .pointer (some ⟨w1.heap.size + 1 + 1, 0, none⟩)])], (((HM1.out.alloc_ (.map #[] 0)).alloc_ (.cells #[.slice A n c, .map (some B), .map (some w1.heap.size)] 134)).alloc_ (.cells #[(.func (.func 99) #[] #[.pointer (some ⟨w.heap.size, 0, none⟩), .pointer (some ⟨w1.heap.size + 1, 0, none⟩), .pointer (some ⟨w.heap.size + 1 + 1, 0, none⟩), .pointer (some ⟨w.heap.size + 1, 0, none⟩), .pointer (some ⟨w1.heap.size + 1 + 1, 0, none⟩)])] 167)), (((HRa.out.alloc (.map #[] 0)).alloc (.cells #[.slice A n c, .map (some B), .map (some w1.heap.size)] 134)).alloc (.cells #[(.func (.func 99) #[] #[.pointer (some ⟨w.heap.size, 0, none⟩), .pointer (some ⟨w1.heap.size + 1, 0, none⟩), .pointer (some ⟨w.heap.size + 1 + 1, 0, none⟩), .pointer (some ⟨w.heap.size + 1, 0, none⟩), .pointer (some ⟨w1.heap.size + 1 + 1, 0, none⟩)])] 167)).mono (Nat.le_refl _) (by omega), (((HRb.out.alloc (.map #[] 0)).alloc (.cells #[.slice A n c, .map (some B), .map (some w1.heap.size)] 134)).alloc (.cells #[(.func (.func 99) #[] #[.pointer (some ⟨w.heap.size, 0, none⟩), .pointer (some ⟨w1.heap.size + 1, 0, none⟩), .pointer (some ⟨w.heap.size + 1 + 1, 0, none⟩), .pointer (some ⟨w.heap.size + 1, 0, none⟩), .pointer (some ⟨w1.heap.size + 1 + 1, 0, none⟩)])] 167)).mono (Nat.le_refl _) (by omega), by omega⟩
  have KRv : Hid (BoxAt (((w1.alloc (.map #[] 0)).alloc (.cells #[.slice A n c, .map (some B), .map (some w1.heap.size)] 134)).alloc (.cells #[(.func (.func 99) #[] #[.pointer (some ⟨w.heap.size, 0, none⟩), .pointer (some ⟨w1.heap.size + 1, 0, none⟩), .pointer (some ⟨w.heap.size + 1 + 1, 0, none⟩), .pointer (some ⟨w.heap.size + 1, 0, none⟩), .pointer (some ⟨w1.heap.size + 1 + 1, 0, none⟩)])] 167)) (w.heap.size + 1 + 1 + 1) 134 #[.slice none 0 0, .map none, .map none]) := Lib.hid (((KR1.out.alloc_ (.map #[] 0)).alloc_ (.cells #[.slice A n c, .map (some B), .map (some w1.heap.size)] 134)).alloc_ (.cells #[(.func (.func 99) #[] #[.pointer (some ⟨w.heap.size, 0, none⟩), .pointer (some ⟨w1.heap.size + 1, 0, none⟩), .pointer (some ⟨w.heap.size + 1 + 1, 0, none⟩), .pointer (some ⟨w.heap.size + 1, 0, none⟩), .pointer (some ⟨w1.heap.size + 1 + 1, 0, none⟩)])] 167))
  have HMv : Hid (MapB (((w1.alloc (.map #[] 0)).alloc (.cells #[.slice A n c, .map (some B), .map (some w1.heap.size)] 134)).alloc (.cells #[(.func (.func 99) #[] #[.pointer (some ⟨w.heap.size, 0, none⟩), .pointer (some ⟨w1.heap.size + 1, 0, none⟩), .pointer (some ⟨w.heap.size + 1 + 1, 0, none⟩), .pointer (some ⟨w.heap.size + 1, 0, none⟩), .pointer (some ⟨w1.heap.size + 1 + 1, 0, none⟩)])] 167)) w1.heap.size 0 (fun _ => false)) := Lib.hid (((mapB_made w1).alloc_ (.cells #[.slice A n c, .map (some B), .map (some w1.heap.size)] 134)).alloc_ (.cells #[(.func (.func 99) #[] #[.pointer (some ⟨w.heap.size, 0, none⟩), .pointer (some ⟨w1.heap.size + 1, 0, none⟩), .pointer (some ⟨w.heap.size + 1 + 1, 0, none⟩), .pointer (some ⟨w.heap.size + 1, 0, none⟩), .pointer (some ⟨w1.heap.size + 1 + 1, 0, none⟩)])] 167))
  have HBv : Hid (Below w.heap.size w (((w1.alloc (.map #[] 0)).alloc (.cells #[.slice A n c, .map (some B), .map (some w1.heap.size)] 134)).alloc (.cells #[(.func (.func 99) #[] #[.pointer (some ⟨w.heap.size, 0, none⟩), .pointer (some ⟨w1.heap.size + 1, 0, none⟩), .pointer (some ⟨w.heap.size + 1 + 1, 0, none⟩), .pointer (some ⟨w.heap.size + 1, 0, none⟩), .pointer (some ⟨w1.heap.size + 1 + 1, 0, none⟩)])] 167))) := Lib.hid (by have := HB1.out.size; exact ((HB1.out.alloc (by omega) _).alloc (by simp <;> omega) _).alloc (by simp <;> omega) _)
  have HSv : Hid ((((w1.alloc (.map #[] 0)).alloc (.cells #[.slice A n c, .map (some B), .map (some w1.heap.size)] 134)).alloc (.cells #[(.func (.func 99) #[] #[.pointer (some ⟨w.heap.size, 0, none⟩), .pointer (some ⟨w1.heap.size + 1, 0, none⟩), .pointer (some ⟨w.heap.size + 1 + 1, 0, none⟩), .pointer (some ⟨w.heap.size + 1, 0, none⟩), .pointer (some ⟨w1.heap.size + 1 + 1, 0, none⟩)])] 167)).heap.size = w1.heap.size + 3) := Lib.hid (by simp)
  have kdv := HW.out.d.at_ (j := 0) (u := .slice A n c) rfl
  go_wp2_with fail
  clear kdv
  generalize (((w1.alloc (.map #[] 0)).alloc (.cells #[.slice A n c, .map (some B), .map (some w1.heap.size)] 134)).alloc (.cells #[(.func (.func 99) #[] #[.pointer (some ⟨w.heap.size, 0, none⟩), .pointer (some ⟨w1.heap.size + 1, 0, none⟩), .pointer (some ⟨w.heap.size + 1 + 1, 0, none⟩), .pointer (some ⟨w.heap.size + 1, 0, none⟩), .pointer (some ⟨w1.heap.size + 1 + 1, 0, none⟩)])] 167)) = V2 at HW KRv HMv HBv HSv ⊢
  refine (impl_IsDocument l A n c 0 w1.heap.size V2 (by omega) HW.out.r hok).mono ?_
  rintro e2 w2 ⟨rfl, hb2⟩
  have HW2 := Lib.hid (HW.out.new hb2)
  have KR2 := Lib.hid (KRv.out.new hb2)
  have HM2 := Lib.hid (HMv.out.new hb2)
  have HB2 := Lib.hid (below_trans HBv.out hb2 (by have := HSv.out; omega))
  have HS2 := Lib.hid (show w1.heap.size + 3 ≤ w2.heap.size by have := HSv.out; have := hb2.size; omega)
  clear hb2 HW KRv HMv HBv HSv KD1 KH1 KY1 KR1 HM1 HRa HRb HB1 kd1
  by_cases hd : mIsDoc l = true
  · have HD := Lib.hid hd
    have h0n : 0 < l.length := by
      have := hd; unfold mIsDoc at this; rw [Bool.and_eq_true] at this; have := inR_true.1 this.1; omega
    have hn16 : n ≤ 16 := by
      have := hd; unfold mIsDoc at this; rw [Bool.and_eq_true] at this; have := inR_true.1 this.1; have := HL.out; omega
    have hx : l[0]? = some l[0] := List.getElem?_eq_getElem h0n
    have hx0 : l[0].f0 = 0 := by
      have hf := doc_at hd hx
      unfold fitAt at hf
      rw [if_pos rfl, Bool.and_eq_true, beq_iff_eq] at hf
      exact hf.1
    have HC := Lib.hid (walk_any l A n c h A1 n1 c1 b _ _ _ _ _ _ _ HD hok hn16 hn1 16 0 l[0] 0 _ w2 (by omega) hx HW2.out HM2.out (by have := bnd_16; omega))
    rw [hx0] at HC
    rw [hd]
    have kf := HW2.out.f.at_ (j := 0) (u := (.func (.func 99) #[] #[.pointer (some ⟨w.heap.size, 0, none⟩), .pointer (some ⟨w1.heap.size + 1, 0, none⟩), .pointer (some ⟨w.heap.size + 1 + 1, 0, none⟩), .pointer (some ⟨w.heap.size + 1, 0, none⟩), .pointer (some ⟨w1.heap.size + 1 + 1, 0, none⟩)])) rfl
    clear hx hx0 hd
    go_wp2_with fail
    refine HC.out.mono ?_
    rintro e3 w3 ⟨k1, s1, rfl, hm3, _, hs3, hc3⟩
    have HB3 := Lib.hid (HB2.out.trans (hc3.below (B := w.heap.size) (.inl (by omega)) (by have := HB2.out.size; omega)))
    have HW3 := HW2.out.chg hc3
    have KR3 := KR2.out.chg hc3 (by omega)
    have HP3 := Lib.hid HW3.i
    have HM3 := Lib.hid (hm3.congr_ (s' := mLook l h b) (fun id => by
      have h1 := hs3 id
      have h2 := seen_idx (l := l) (h := h) (b := b) HD.out id
      unfold mLook
      rw [Bool.eq_iff_iff, h1, h2]
      simp))
    have g0 := HW3.s.at_ (j := 0) (u := .slice A n c) rfl
    have g1 := HW3.s.at_ (j := 1) (u := .map (some B)) rfl
    have g2 := HW3.s.at_ (j := 2) (u := .map (some w1.heap.size)) rfl
    have r0 := KR3.at_ (j := 0) (u := .slice none 0 0) rfl
    have r1 := KR3.at_ (j := 1) (u := .map none) rfl
    have r2 := KR3.at_ (j := 2) (u := .map none) rfl
    have f0 := KR3.free 0
    have f1 := KR3.free 1
    have f2 := KR3.free 2
    have KR4 := Lib.hid KR3
    clear hm3 hs3 hc3 HW3 KR3 HC kf
    go_wp2_with fail
    refine bodyPost_ret (v := .agg #[.slice A n c, .map (some B), .map (some w1.heap.size)]) (by simp [results, Tryz.results63, go_sem, r0, r1, r2]) rfl ⟨B, w1.heap.size, k1, rfl, HP3.out.keep ?_, HM3.out.keep ?_, by omega, by omega, ((HB3.out.setCell (by show w.heap.size ≤ w.heap.size + 1 + 1 + 1; omega) _).setCell (by show w.heap.size ≤ w.heap.size + 1 + 1 + 1; omega) _).setCell (by show w.heap.size ≤ w.heap.size + 1 + 1 + 1; omega) _⟩
    · rw [Below.heap_setCell _ _ _ _ (by simp; omega), Below.heap_setCell _ _ _ _ (by simp; omega), Below.heap_setCell _ _ _ _ (by simp; omega)]
    · rw [Below.heap_setCell _ _ _ _ (by simp; omega), Below.heap_setCell _ _ _ _ (by simp; omega), Below.heap_setCell _ _ _ _ (by simp; omega)]
  · have hd : mIsDoc l = false := by simpa using hd
    have HM3 := Lib.hid (HM2.out.congr_ (s' := mLook l h b) (fun id => by unfold mLook mSeen; rw [hd]; rfl))
    have HP3 := Lib.hid HW2.out.i
    have g0 := HW2.out.s.at_ (j := 0) (u := .slice A n c) rfl
    have g1 := HW2.out.s.at_ (j := 1) (u := .map (some B)) rfl
    have g2 := HW2.out.s.at_ (j := 2) (u := .map (some w1.heap.size)) rfl
    have r0 := KR2.out.at_ (j := 0) (u := .slice none 0 0) rfl
    have r1 := KR2.out.at_ (j := 1) (u := .map none) rfl
    have r2 := KR2.out.at_ (j := 2) (u := .map none) rfl
    have f0 := KR2.out.free 0
    have f1 := KR2.out.free 1
    have f2 := KR2.out.free 2
    rw [hd]
    clear hd HM2 KR2
    go_wp2_with fail
    refine bodyPost_ret (v := .agg #[.slice A n c, .map (some B), .map (some w1.heap.size)]) (by simp [results, Tryz.results63, go_sem, r0, r1, r2]) rfl ⟨B, w1.heap.size, 0, rfl, HP3.out.keep ?_, HM3.out.keep ?_, by omega, by omega, ((HB2.out.setCell (by show w.heap.size ≤ w.heap.size + 1 + 1 + 1; omega) _).setCell (by show w.heap.size ≤ w.heap.size + 1 + 1 + 1; omega) _).setCell (by show w.heap.size ≤ w.heap.size + 1 + 1 + 1; omega) _⟩
    · rw [Below.heap_setCell _ _ _ _ (by simp; omega), Below.heap_setCell _ _ _ _ (by simp; omega), Below.heap_setCell _ _ _ _ (by simp; omega)]
    · rw [Below.heap_setCell _ _ _ _ (by simp; omega), Below.heap_setCell _ _ _ _ (by simp; omega), Below.heap_setCell _ _ _ _ (by simp; omega)]
/-- The nodes at the first k places that the map has. -/
def mSeenTo (l : List TNode) (h : List Int) (b : Int) (k : Nat) : List TNode := (l.take k).filter fun x => mLook l h b x.f0
theorem seenTo_step {l : List TNode} {h : List Int} {b : Int} {k : Nat} {x : TNode} (hx : l[k]? = some x) : mSeenTo l h b (k + 1) = if mLook l h b x.f0 = true then mSeenTo l h b k ++ [x] else mSeenTo l h b k := by
  unfold mSeenTo
  exact filter_sn (fun x : TNode => mLook l h b x.f0) hx
theorem mSeenTo_len {l : List TNode} {h : List Int} {b : Int} (k : Nat) : (mSeenTo l h b k).length ≤ k := Nat.le_trans (List.length_filter_le _ _) (List.length_take_le _ _)
theorem seenTo_is {l : List TNode} {h : List Int} {b : Int} (hd : mIsDoc l = true) : ∀ k, k ≤ l.length → seenTo l h b k = mSeenTo l h b k := by
  intro k
  induction k with
  | zero => intro _; rfl
  | succ k ih =>
    intro hk
    have hx : l[k]? = some l[k] := List.getElem?_eq_getElem (by omega)
    have h1 : mLook l h b l[k].f0 = true ↔ mSees l h b k = true := (seen_idx hd l[k].f0).symm.trans (seen_at hd hx)
    rw [seenTo_step hx, ← ih (by omega)]
    cases hs : mSees l h b k with
    | true => rw [seenTo_some hx hs, if_pos (h1.2 hs)]
    | false => rw [seenTo_none hx hs, if_neg (fun e => by rw [h1.1 e] at hs; cases hs)]
theorem mSeen_to {l : List TNode} {h : List Int} {b : Int} : mSeen l h b = mSeenTo l h b l.length := by
  by_cases hd : mIsDoc l = true
  · rw [← seenTo_is hd _ (Nat.le_refl _)]
    unfold mSeen
    rw [if_pos hd]
  · have hn : mSeen l h b = [] := by unfold mSeen; rw [if_neg hd]
    unfold mSeenTo mLook
    rw [hn, List.filter_eq_nil_iff.2 (fun x _ => by simp [idx])]
set_option maxHeartbeats 8000000 in
theorem impl_SeenByC (l0 : List TNode) (A0 : Option Addr) (n0 c0 lo0 hi0 : Nat) (l1 : List Int) (A1 : Option Addr) (n1 c1 lo1 hi1 : Nat) (a2 : Int) (w : World) (h0 : n0 ≤ 1048576) (r0 : Rd w lo0 hi0 5 A0 n0 (cNode l0)) (p0 : n0 ≤ c0) (b0 : Hid (cNodeOk l0))
    (h1 : n1 ≤ 1048576) (r1 : Rd w lo1 hi1 1 A1 n1 (i64s l1)) (p1 : n1 ≤ c1) (b1 : Hid (I64s l1)) (w2 : (Lit.int .i64 a2).wf = true) :
    Calls Tryz.prog 29 #[.slice A0 n0 c0, .slice A1 n1 c1, .int .i64 a2] w (Makes 70 5 (mSeen l0 l1 a2).length (cNode (mSeen l0 l1 a2)) w) := by
  have HR := Lib.hid r0
  have HL := Lib.hid (rd_len TNode.len r0 (by decide))
  have HR1 := Lib.hid r1
  clear r0 r1 w2
  have HG := Lib.hid (show ∀ k x, l0[k]? = some x → mSeenTo l0 l1 a2 (k + 1) = if mLook l0 l1 a2 x.f0 = true then mSeenTo l0 l1 a2 k ++ [x] else mSeenTo l0 l1 a2 k from fun k x hx => seenTo_step hx)
  have HN := Lib.hid (show ∀ k, (mSeenTo l0 l1 a2 k).length ≤ k from mSeenTo_len)
  have HE := Lib.hid (show mSeen l0 l1 a2 = mSeenTo l0 l1 a2 n0 by rw [← HL.out]; exact mSeen_to)
  go_enter Tryz.func29, Tryz.ntmps29
  go_wp2_with fail
  refine (look_any l0 A0 n0 c0 lo0 hi0 l1 A1 n1 c1 lo1 hi1 a2 _ h0 HR.out b0 h1 HR1.out).mono ?_
  rintro e1 w1 ⟨B, M, kk, rfl, hP, hM, hB, hMl, hb1⟩
  have HM := Lib.hid hM
  have HB1 := Lib.hid hb1
  have KS : Hid (BoxAt (w1.alloc (.cells #[.slice A0 n0 c0, .map (some B), .map (some M)] 134)) w1.heap.size 134 #[.slice A0 n0 c0, .map (some B), .map (some M)]) := Lib.hid (box_new _ _ _)
  have hMw := hM.lt
  clear hP hM hb1
  go_wp2_with fail
  go_loopg [8, 18] n0 (fun gg v i wr => ∃ k : Nat, k ≤ n0 ∧ n0 - k ≤ gg ∧ i = .int .i64 k ∧ Hid (wr.ownsRow (w1.heap.size + 1) 70 5 v (mSeenTo l0 l1 a2 k).length (cNode (mSeenTo l0 l1 a2 k))) ∧ Hid (Below (w1.heap.size + 1) (w1.alloc (.cells #[.slice A0 n0 c0, .map (some B), .map (some M)] 134)) wr))
  case atStart => exact ⟨0, Nat.zero_le _, by omega, rfl, Lib.hid (by have h : ((w1.alloc (.cells #[.slice A0 n0 c0, .map (some B), .map (some M)] 134)).alloc (.cells #[] 70)).ownsRow (w1.heap.size + 1) 70 5 (.slice (some ⟨(w1.alloc (.cells #[.slice A0 n0 c0, .map (some B), .map (some M)] 134)).heap.size, 0, none⟩) 0 0) 0 (#[] : Array Value).toList := World.ownsRow_lit (w1.alloc (.cells #[.slice A0 n0 c0, .map (some B), .map (some M)] 134)) #[] 0 (by rw [World.size_alloc]; exact Nat.le_refl _) (by unfold maxLen; omega) rfl; simpa [mSeenTo, cNode] using h), Lib.hid ((Below.refl (w1.heap.size + 1) (w1.alloc (.cells #[.slice A0 n0 c0, .map (some B), .map (some M)] 134))).alloc (by rw [World.size_alloc]; exact Nat.le_refl _) _)⟩
  case round =>
    obtain ⟨k, hk, hg, rfl, HO, HB⟩ := hrel
    have hBs := HB.out.size
    rw [World.size_alloc] at hBs
    have HRw := Lib.hid (((HR.out.new HB1.out).alloc (.cells #[.slice A0 n0 c0, .map (some B), .map (some M)] 134)).new (HB.out.mono (by simp)))
    have HMr := Lib.hid ((HM.out.alloc_ (.cells #[.slice A0 n0 c0, .map (some B), .map (some M)] 134)).new (HB.out.mono (by simp)))
    have KSr := KS.out.new (HB.out.mono (by simp))
    have s0 := KSr.at_ (j := 0) (u := .slice A0 n0 c0) rfl
    have s1 := KSr.at_ (j := 1) (u := .map (some B)) rfl
    have s2 := KSr.at_ (j := 2) (u := .map (some M)) rfl
    have hSl := KSr.lt
    clear KSr
    by_cases hlt : k < n0
    · obtain ⟨b, off, x, rfl, _, _, hz, hc⟩ := rd_elem TNode.len HRw.out HL.out hlt
      have c0' : wr.cell? ⟨b, off + k * 5, none⟩ = _ := hc 0 _ rfl
      have c1' := hc 1 _ rfl
      have c2' := hc 2 _ rfl
      have c3' := hc 3 _ rfl
      have c4' := hc 4 _ rfl
      have hbl : b < wr.heap.size := World.block_lt_of_cell? wr _ c0'
      have HE2 := Lib.hid (HG.out k x hz)
      have WX := Lib.hid (node_wf b0.out hz).1
      have HLk := Lib.hid ((HMr.out.alloc_ (.cells #[.int .i64 x.f0, .int .i64 x.f1, .int .i64 x.f2, .int .i64 x.f3, .int .i64 x.f4] 70)).look Tryz.underlying132 x.f0 WX.out)
      have hlk := HLk.out
      clear hz hc
      cases hs : mLook l0 l1 a2 x.f0 with
      | true =>
        rw [hs] at hlk
        have H2 := Lib.hid (by have := HE2.out; rwa [if_pos hs] at this)
        clear HE2 hs HLk
        go_wp2_with (at_builtin; refine wp_app_lit rfl _ _ _ rfl (w1.heap.size + 1) 70 (.agg #[.int .i64 0, .int .i64 0, .int .i64 0, .int .i64 0, .int .i64 0]) 5 40 Tryz.underlying31 (by kernel_rfl) rfl (by decide) _ _ _ rfl (HO.out.alloc _) #[.int .i64 x.f0, .int .i64 x.f1, .int .i64 x.f2, .int .i64 x.f3, .int .i64 x.f4] 1 1 _ rfl (by simp) rfl (by intro u hu; simp at hu; rcases hu with rfl | rfl | rfl | rfl | rfl <;> rfl) (by have := HN.out k; unfold maxLen; omega) (by have := HN.out k; omega) (by simp; omega) ?_; intro v1 w3 ho1 hb3)
        have HO3 := Lib.hid (show w3.ownsRow (w1.heap.size + 1) 70 5 v1 (mSeenTo l0 l1 a2 (k + 1)).length (cNode (mSeenTo l0 l1 a2 (k + 1))) by rw [H2.out]; simpa [cNode, List.flatMap_append, TNode.cells] using ho1)
        have HB3 := Lib.hid ((HB.out.alloc (by simpa using hBs) (.cells #[.int .i64 x.f0, .int .i64 x.f1, .int .i64 x.f2, .int .i64 x.f3, .int .i64 x.f4] 70)).trans hb3)
        clear ho1 hb3
        go_wp2_with fail
        go_roundg (n0 - (k + 1))
        case measure => omega
        case rel => exact ⟨k + 1, by omega, by omega, by go_num, HO3, HB3⟩
      | false =>
        rw [hs] at hlk
        have H2 := Lib.hid (by have := HE2.out; rwa [if_neg (by rw [hs]; decide)] at this)
        clear HE2 hs HLk
        go_wp2_with fail
        go_roundg (n0 - (k + 1))
        case measure => omega
        case rel => exact ⟨k + 1, by omega, by omega, by go_num, by rw [H2.out]; exact Lib.hid (HO.out.alloc _), Lib.hid (HB.out.alloc (by simpa using hBs) _)⟩
    · obtain rfl : k = n0 := by omega
      go_wp2_with fail
      go_ret
      rw [HE.out]
      exact makes_of_own (own_base HO.out (by have := HB1.out.size; omega)) ((HB1.out.alloc HB1.out.size _).trans (HB.out.mono (by have := HB1.out.size; omega)))
end Go.Proofs.YtjgcgipglmhgeaaGreat
