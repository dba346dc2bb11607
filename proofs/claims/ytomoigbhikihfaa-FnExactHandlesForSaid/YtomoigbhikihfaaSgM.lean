/- What a world sees of a document: up from a node (the model), down from the root (the program). Lists of nodes alone. -/
import Derived.Test.YtomoigbhikihfaaAplM
import Derived.Test.YtomoigbhikihfaaChil
namespace Go.Proofs.Ytomoigbhikihfaa
open Go Go.ChangeShapes Go.WideShapes Go.ChangeAt Go.RowKit Go.Lib
set_option linter.unusedVariables false
set_option linter.unusedSimpArgs false
set_option maxRecDepth 100000

/-- A node that is hidden from a world by itself. -/
def blk (h : List Int) (b : Int) (x : TNode) : Bool := h.contains x.f2 && (x.f4 != b)
/-- The way up from place k in at most so many steps: nothing on it is hidden. -/
def upF (l : List TNode) (h : List Int) (b : Int) : Nat → Int → Bool
  | 0, _ => true
  | f + 1, k => if k < 0 then true else match l[k.toNat]? with
    | none => true
    | some x => if blk h b x = true then false else upF l h b f (mNodeOf (l.take k.toNat) x.f1)
def mSees (l : List TNode) (h : List Int) (b : Int) (i : Nat) : Bool := upF l h b (i + 1) (i : Int)
theorem mNodeOf_lt (l : List TNode) (k : Nat) (id : Int) : mNodeOf (l.take k) id < k := by
  unfold mNodeOf
  cases hi : idx (l.take k) id with
  | none => simp only; omega
  | some v =>
    obtain ⟨i, x, rfl, hl, _⟩ := idx_lt hi
    rw [List.length_take] at hl
    simp only
    omega
theorem mNodeOf_ge (l : List TNode) (id : Int) : -1 ≤ mNodeOf l id := by
  unfold mNodeOf
  cases hi : idx l id with
  | none => simp
  | some v =>
    obtain ⟨i, x, rfl, hl, _⟩ := idx_lt hi
    simp only
    omega
theorem upF_neg {l : List TNode} {h : List Int} {b : Int} {f : Nat} {k : Int} (hk : k < 0) : upF l h b f k = true := by
  cases f with
  | zero => rfl
  | succ f => unfold upF; rw [if_pos hk]
theorem upF_fuel (l : List TNode) (h : List Int) (b : Int) : ∀ (f f' : Nat) (k : Int), k < f → k < f' → upF l h b f k = upF l h b f' k := by
  intro f
  induction f with
  | zero => intro f' k hk _; rw [upF_neg (by omega), upF_neg (by omega)]
  | succ f ih =>
    intro f' k hk hk'
    by_cases h0 : k < 0
    · rw [upF_neg h0, upF_neg h0]
    · cases f' with
      | zero => omega
      | succ f' =>
        unfold upF
        rw [if_neg h0, if_neg h0]
        cases l[k.toNat]? with
        | none => rfl
        | some x =>
          simp only
          have := mNodeOf_lt l k.toNat x.f1
          rw [ih f' _ (by omega) (by omega)]
theorem upF_hid {l : List TNode} {h : List Int} {b : Int} {k f : Nat} {x : TNode} (hx : l[k]? = some x) (hb : blk h b x = true) : upF l h b (f + 1) (k : Int) = false := by
  unfold upF
  rw [if_neg (by omega), Int.toNat_natCast, hx]
  simp only
  rw [if_pos hb]
theorem upF_go {l : List TNode} {h : List Int} {b : Int} {k : Nat} {x : TNode} (hx : l[k]? = some x) (hb : blk h b x = false) :
    upF l h b (mNodeOf (l.take k) x.f1 + 1).toNat (mNodeOf (l.take k) x.f1) = upF l h b (k + 1) (k : Int) := by
  conv => rhs; unfold upF
  rw [if_neg (by omega), Int.toNat_natCast, hx]
  simp only
  rw [if_neg (by rw [hb]; decide)]
  have h1 := mNodeOf_lt l k x.f1
  have h2 := mNodeOf_ge (l.take k) x.f1
  exact upF_fuel _ _ _ _ _ _ (by omega) (by omega)
theorem idx_take_eq {l : List TNode} {id : Int} {j : Nat} (hs : (idx (l.take j) id).isSome = true) : idx (l.take j) id = idx l id := by
  have e : l = l.take j ++ l.drop j := (List.take_append_drop _ _).symm
  cases hi : idx (l.take j) id with
  | none => rw [hi] at hs; cases hs
  | some v =>
    unfold idx at hi ⊢
    conv => rhs; rw [e]
    rw [List.findIdx?_append]
    cases hf : (l.take j).findIdx? (fun x => x.f0 == id) with
    | none => rw [hf] at hi; cases hi
    | some i => rw [hf] at hi; simpa using hi.symm
/-- Seen on the way down from place i. -/
inductive Vis (l : List TNode) (h : List Int) (b : Int) (i : Nat) : Nat → Prop
  | here {x : TNode} : l[i]? = some x → blk h b x = false → Vis l h b i i
  | down {j p : Nat} {y : TNode} : l[j]? = some y → blk h b y = false → idx l y.f1 = some (p : Int) → p < j → Vis l h b i p → Vis l h b i j
section
variable {l : List TNode} {h : List Int} {b : Int}
theorem Vis.ok {i j : Nat} (v : Vis l h b i j) : ∃ y, l[j]? = some y ∧ blk h b y = false := by
  cases v with
  | here hx hb => exact ⟨_, hx, hb⟩
  | down hx hb _ _ _ => exact ⟨_, hx, hb⟩
theorem doc_par (hd : mIsDoc l = true) {j : Nat} {x : TNode} (hx : l[j]? = some x) (hj : j ≠ 0) : ∃ p : Nat, idx l x.f1 = some (p : Int) ∧ p < j ∧ mNodeOf (l.take j) x.f1 = p := by
  have hf := doc_at hd hx
  unfold fitAt at hf
  rw [if_neg hj, Bool.and_eq_true] at hf
  obtain ⟨p, hp, hlt⟩ := idx_of_take hf.2
  refine ⟨p, hp, hlt, ?_⟩
  unfold mNodeOf
  rw [idx_take_eq hf.2, hp]
theorem sees_iff (hd : mIsDoc l = true) : ∀ (j : Nat), j < l.length → (mSees l h b j = true ↔ Vis l h b 0 j) := by
  intro j
  induction j using Nat.strongRecOn with
  | ind j ih =>
    intro hj
    have hx : l[j]? = some l[j] := List.getElem?_eq_getElem hj
    unfold mSees
    cases hb : blk h b l[j] with
    | true =>
      rw [upF_hid hx hb]
      constructor
      · intro h; cases h
      · intro v
        obtain ⟨y, hy, hby⟩ := v.ok
        rw [hx] at hy
        injection hy with hy
        rw [← hy, hb] at hby
        cases hby
    | false =>
      rw [← upF_go hx hb]
      by_cases h0 : j = 0
      · subst h0
        have hn : mNodeOf (l.take 0) l[0].f1 < 0 := by have := mNodeOf_lt l 0 l[0].f1; omega
        rw [upF_neg hn]
        exact ⟨fun _ => .here hx hb, fun _ => rfl⟩
      · obtain ⟨p, hp, hlt, hm⟩ := doc_par hd hx h0
        rw [hm]
        have hpl : p < l.length := by omega
        have he : upF l h b ((p : Int) + 1).toNat (p : Int) = mSees l h b p := by
          unfold mSees
          exact upF_fuel _ _ _ _ _ _ (by omega) (by omega)
        rw [he, ih p hlt hpl]
        constructor
        · intro v; exact .down hx hb hp hlt v
        · intro v
          cases v with
          | here hx' _ => exact absurd rfl h0
          | down hx' _ hp' _ v' =>
            rw [hx] at hx'
            injection hx' with hx'
            rw [← hx', hp] at hp'
            injection hp' with hp'
            obtain rfl := Int.ofNat.inj hp'
            exact v'
theorem doc_self (hd : mIsDoc l = true) {i : Nat} {x : TNode} (hx : l[i]? = some x) : idx l x.f0 = some (i : Int) := by
  have ha := doc_asc hd
  have hi := (List.getElem?_eq_some_iff.1 hx).1
  cases hv : idx l x.f0 with
  | none =>
    have := idx_none (l := l) (id := x.f0) (by rw [hv]; rfl) x (List.mem_of_getElem? hx)
    exact absurd rfl this
  | some v =>
    obtain ⟨j, y, rfl, hj, hy, he⟩ := idx_lt hv
    rw [List.pairwise_iff_getElem] at ha
    have e1 : l[i] = x := by rw [List.getElem?_eq_getElem hi] at hx; exact Option.some.inj hx
    have e2 : l[j] = y := by rw [List.getElem?_eq_getElem hj] at hy; exact Option.some.inj hy
    rcases Nat.lt_trichotomy i j with hlt | rfl | hlt
    · have := ha i j hi hj hlt; rw [e1, e2] at this; omega
    · rfl
    · have := ha j i hj hi hlt; rw [e1, e2] at this; omega
theorem doc_child (hd : mIsDoc l = true) {i c : Nat} {x y : TNode} (hx : l[i]? = some x) (hy : l[c]? = some y) (he : y.f1 = x.f0) : i < c := by
  by_cases h0 : c = 0
  · subst h0
    have hf := doc_at hd hy
    unfold fitAt at hf
    rw [if_pos rfl, Bool.and_eq_true, beq_iff_eq, beq_iff_eq] at hf
    have := doc_nonneg hd _ _ hx
    omega
  · obtain ⟨p, hp, hlt, _⟩ := doc_par hd hy h0
    rw [he, doc_self hd hx] at hp
    injection hp with hp
    obtain rfl := Int.ofNat.inj hp
    exact hlt
theorem vis_up (hd : mIsDoc l = true) {i c j : Nat} {x y : TNode} (hx : l[i]? = some x) (hb : blk h b x = false) (hy : l[c]? = some y) (he : y.f1 = x.f0) (v : Vis l h b c j) : Vis l h b i j := by
  induction v with
  | here hx' hb' =>
    rw [hy] at hx'
    injection hx' with hx'
    subst hx'
    exact .down hy hb' (by rw [he]; exact doc_self hd hx) (doc_child hd hx hy he) (.here hx hb)
  | down hx' hb' hp hlt _ ih => exact .down hx' hb' hp hlt ih
theorem vis_iff (hd : mIsDoc l = true) {i j : Nat} {x : TNode} (hx : l[i]? = some x) (hb : blk h b x = false) :
    Vis l h b i j ↔ (j = i ∨ ∃ (c : Nat) (y : TNode), l[c]? = some y ∧ y.f1 = x.f0 ∧ Vis l h b c j) := by
  constructor
  · intro v
    induction v with
    | here _ _ => exact .inl rfl
    | @down j p y hy hby hp hlt _ ih =>
      right
      rcases ih with rfl | ⟨c, z, hz, he, v⟩
      · obtain ⟨i', x', hv, _, hx', he⟩ := idx_lt hp
        obtain rfl := Int.ofNat.inj hv
        rw [hx] at hx'
        injection hx' with hx'
        subst hx'
        exact ⟨j, y, hy, he.symm, .here hy hby⟩
      · exact ⟨c, z, hz, he, .down hy hby hp hlt v⟩
  · rintro (rfl | ⟨c, y, hy, he, v⟩)
    · exact .here hx hb
    · exact vis_up hd hx hb hy he v
/-- An Id that is seen on the way down from place i. -/
def SeenId (l : List TNode) (h : List Int) (b : Int) (i : Nat) (id : Int) : Prop := ∃ (j : Nat) (y : TNode), l[j]? = some y ∧ y.f0 = id ∧ Vis l h b i j
/-- The nodes at the first k places that are seen. -/
def seenTo (l : List TNode) (h : List Int) (b : Int) : Nat → List TNode
  | 0 => []
  | k + 1 => match l[k]? with
    | some x => if mSees l h b k = true then seenTo l h b k ++ [x] else seenTo l h b k
    | none => seenTo l h b k
def mSeen (l : List TNode) (h : List Int) (b : Int) : List TNode := if mIsDoc l = true then seenTo l h b l.length else []
theorem seenTo_some {k : Nat} {x : TNode} (hx : l[k]? = some x) (hs : mSees l h b k = true) : seenTo l h b (k + 1) = seenTo l h b k ++ [x] := by
  rw [seenTo, hx]; simp only; rw [if_pos hs]
theorem seenTo_none {k : Nat} {x : TNode} (hx : l[k]? = some x) (hs : mSees l h b k = false) : seenTo l h b (k + 1) = seenTo l h b k := by
  rw [seenTo, hx]; simp only; rw [if_neg (by rw [hs]; decide)]
theorem seenTo_len : ∀ k, (seenTo l h b k).length ≤ k := by
  intro k
  induction k with
  | zero => simp [seenTo]
  | succ k ih =>
    unfold seenTo
    split
    · split
      · rw [List.length_append, List.length_singleton]; omega
      · omega
    · omega
theorem mSeen_len (l : List TNode) (h : List Int) (b : Int) : (mSeen l h b).length ≤ l.length := by
  unfold mSeen
  split
  · exact seenTo_len _
  · simp
theorem seenTo_mem : ∀ k, ∀ x, x ∈ seenTo l h b k ↔ ∃ j, j < k ∧ l[j]? = some x ∧ mSees l h b j = true := by
  intro k
  induction k with
  | zero => intro x; simp [seenTo]
  | succ k ih =>
    intro x
    unfold seenTo
    cases hk : l[k]? with
    | none =>
      simp only
      rw [ih]
      constructor
      · rintro ⟨j, hj, hx, hs⟩; exact ⟨j, by omega, hx, hs⟩
      · rintro ⟨j, hj, hx, hs⟩
        refine ⟨j, ?_, hx, hs⟩
        by_cases e : j = k
        · subst e; rw [hk] at hx; cases hx
        · omega
    | some z =>
      simp only
      cases hs : mSees l h b k with
      | false =>
        rw [if_neg (by decide), ih]
        constructor
        · rintro ⟨j, hj, hx, hs⟩; exact ⟨j, by omega, hx, hs⟩
        · rintro ⟨j, hj, hx, hs'⟩
          refine ⟨j, ?_, hx, hs'⟩
          by_cases e : j = k
          · subst e; rw [hs] at hs'; cases hs'
          · omega
      | true =>
        rw [if_pos rfl, List.mem_append, ih, List.mem_singleton]
        constructor
        · rintro (⟨j, hj, hx, hs⟩ | rfl)
          · exact ⟨j, by omega, hx, hs⟩
          · exact ⟨k, by omega, hk, hs⟩
        · rintro ⟨j, hj, hx, hs'⟩
          by_cases e : j = k
          · subst e; rw [hk] at hx; injection hx with hx; exact .inr hx.symm
          · exact .inl ⟨j, by omega, hx, hs'⟩
theorem mSeen_ok (hok : cNodeOk l) : cNodeOk (mSeen l h b) := by
  intro x hx
  unfold mSeen at hx
  split at hx
  · obtain ⟨j, _, hj, _⟩ := (seenTo_mem _ _).1 hx
    exact hok x (List.mem_of_getElem? hj)
  · cases hx
/-- The Id of a node of a document is seen just where the node is. -/
theorem seen_at (hd : mIsDoc l = true) {k : Nat} {x : TNode} (hx : l[k]? = some x) : SeenId l h b 0 x.f0 ↔ mSees l h b k = true := by
  rw [sees_iff hd k (List.getElem?_eq_some_iff.1 hx).1]
  constructor
  · rintro ⟨j, y, hy, he, v⟩
    have h1 := doc_self hd hy
    rw [he, doc_self hd hx] at h1
    injection h1 with h1
    obtain rfl := Int.ofNat.inj h1
    exact v
  · intro v; exact ⟨k, x, hx, rfl, v⟩
theorem idx_some_iff {m : List TNode} {id : Int} : (idx m id).isSome = true ↔ ∃ x ∈ m, x.f0 = id := by
  constructor
  · intro hs
    obtain ⟨v, hv⟩ := Option.isSome_iff_exists.1 hs
    obtain ⟨i, x, _, _, hx, he⟩ := idx_lt hv
    exact ⟨x, List.mem_of_getElem? hx, he⟩
  · rintro ⟨x, hx, he⟩
    cases hn : (idx m id).isSome with
    | true => rfl
    | false => exact absurd he (idx_none hn x hx)
theorem seen_idx (hd : mIsDoc l = true) (id : Int) : SeenId l h b 0 id ↔ (idx (mSeen l h b) id).isSome = true := by
  rw [idx_some_iff]
  unfold mSeen
  rw [if_pos hd]
  constructor
  · rintro ⟨j, y, hy, rfl, v⟩
    have hj := (List.getElem?_eq_some_iff.1 hy).1
    exact ⟨y, (seenTo_mem _ _).2 ⟨j, hj, hy, (sees_iff hd j hj).2 v⟩, rfl⟩
  · rintro ⟨x, hx, rfl⟩
    obtain ⟨j, hj, hjx, hs⟩ := (seenTo_mem _ _).1 hx
    exact ⟨j, x, hjx, rfl, (sees_iff hd j hj).1 hs⟩
/-- One child's turn: what is seen below the first k + 1 children. -/
def SeenKids (l : List TNode) (h : List Int) (b : Int) (cs : List Int) (id : Int) : Prop := ∃ (z : Int) (c : Nat), z ∈ cs ∧ idx l z = some (c : Int) ∧ SeenId l h b c id
theorem kids_nil (id : Int) : ¬ SeenKids l h b [] id := by rintro ⟨z, c, hz, _⟩; cases hz
theorem kids_snoc {cs : List Int} {k : Nat} {z : Int} {c : Nat} (hz : cs[k]? = some z) (hc : idx l z = some (c : Int)) (id : Int) : SeenKids l h b (cs.take (k + 1)) id ↔ (SeenKids l h b (cs.take k) id ∨ SeenId l h b c id) := by
  rw [List.take_add_one, hz, Option.toList_some]
  constructor
  · rintro ⟨z', c', hz', hc', hs⟩
    rcases List.mem_append.1 hz' with hm | hm
    · exact .inl ⟨z', c', hm, hc', hs⟩
    · rw [List.mem_singleton.1 hm, hc] at hc'
      injection hc' with hc'
      obtain rfl := Int.ofNat.inj hc'
      exact .inr hs
  · rintro (⟨z', c', hz', hc', hs⟩ | hs)
    · exact ⟨z', c', List.mem_append.2 (.inl hz'), hc', hs⟩
    · exact ⟨z, c, List.mem_append.2 (.inr (List.mem_singleton.2 rfl)), hc, hs⟩
theorem kid_at (hd : mIsDoc l = true) {i : Nat} {x : TNode} (hx : l[i]? = some x) {z : Int} (hz : z ∈ mChildren l x.f0) : ∃ c : Nat, idx l z = some (c : Int) ∧ i < c ∧ c < l.length := by
  unfold mChildren at hz
  obtain ⟨y, hy, rfl⟩ := List.mem_map.1 hz
  obtain ⟨hm, he⟩ := List.mem_filter.1 hy
  obtain ⟨c, hc⟩ := List.getElem?_of_mem hm
  exact ⟨c, doc_self hd hc, doc_child hd hx hc (by simpa using he), (List.getElem?_eq_some_iff.1 hc).1⟩
theorem seen_kids (hd : mIsDoc l = true) {i : Nat} {x : TNode} (hx : l[i]? = some x) (hb : blk h b x = false) (id : Int) : SeenId l h b i id ↔ (id = x.f0 ∨ SeenKids l h b (mChildren l x.f0) id) := by
  constructor
  · rintro ⟨j, y, hy, he, v⟩
    rcases (vis_iff hd hx hb).1 v with rfl | ⟨c, z, hz, hp, v'⟩
    · rw [hx] at hy
      injection hy with hy
      subst hy
      exact .inl he.symm
    · refine .inr ⟨z.f0, c, ?_, doc_self hd hz, j, y, hy, he, v'⟩
      unfold mChildren
      exact List.mem_map.2 ⟨z, List.mem_filter.2 ⟨List.mem_of_getElem? hz, by simpa using hp⟩, rfl⟩
  · rintro (rfl | ⟨z, c, hz, hc, j, y, hy, he, v⟩)
    · exact ⟨i, x, hx, rfl, .here hx hb⟩
    · unfold mChildren at hz
      obtain ⟨u, hu, rfl⟩ := List.mem_map.1 hz
      obtain ⟨hm, hp⟩ := List.mem_filter.1 hu
      obtain ⟨c', hc'⟩ := List.getElem?_of_mem hm
      rw [doc_self hd hc'] at hc
      injection hc with hc
      obtain rfl := Int.ofNat.inj hc
      exact ⟨j, y, hy, he, vis_up hd hx hb hc' (by simpa using hp) v⟩
theorem Vis.top {i j : Nat} (v : Vis l h b i j) : ∃ x, l[i]? = some x ∧ blk h b x = false := by
  induction v with
  | here hx hb => exact ⟨_, hx, hb⟩
  | down _ _ _ _ _ ih => exact ih
theorem seen_hid {i : Nat} {x : TNode} (hx : l[i]? = some x) (hb : blk h b x = true) (id : Int) : ¬ SeenId l h b i id := by
  rintro ⟨j, y, hy, he, v⟩
  obtain ⟨x', hx', hb'⟩ := v.top
  rw [hx] at hx'
  injection hx' with hx'
  rw [← hx', hb] at hb'
  cases hb'
end
/-- How many times a walk puts something into the map, at most. -/
def bnd : Nat → Nat
  | 0 => 0
  | f + 1 => 1 + 16 * bnd f
theorem bnd_mono (f : Nat) : bnd f ≤ bnd (f + 1) := by unfold bnd; cases f <;> simp [bnd]; omega
theorem bnd_le {f g : Nat} (h : f ≤ g) : bnd f ≤ bnd g := by
  induction h with
  | refl => exact Nat.le_refl _
  | step _ ih => exact Nat.le_trans ih (bnd_mono _)
theorem bnd_16 : bnd 16 ≤ maxLen := by decide +kernel
end Go.Proofs.Ytomoigbhikihfaa
