/- RnI, what is needed of it. -/
import Derived.Test.YtcankpiidjhhpaaYGd
import Derived.Test.YtcankpiidjhhpaaYMcRRn
import Derived.Test.YtcankpiidjhhpaaYCgB
import Derived.Test.YtcankpiidjhhpaaYAppO
import Derived.Test.YtcankpiidjhhpaaYGc
import Derived.Deep.RegionHeld3
import Derived.Deep.LoopGhost
import Derived.Deep.DeepCutAuto
namespace Go.Proofs.Ytcankpiidjhhpaa
open Go Go.ChangeShapes Go.WideShapes Go.ChangeAt Go.RowKit Go.Lib
set_option linter.unusedVariables false
set_option linter.unusedSimpArgs false
set_option maxRecDepth 100000

theorem info_sent : (Try.prog.info? 47).map (fun i => (i.zero, i.size, i.bytes)) = some (some (.agg #[.int .i64 0, .int .i64 0, .int .i64 0]), 3, 24) := by kernel_rfl
theorem one_sent (x y z : Int) : ∀ u ∈ (#[Value.int .i64 x, .int .i64 y, .int .i64 z]).toList, u.oneCell' = true := by
  intro u hu
  simp only [List.mem_cons, List.not_mem_nil, or_false] at hu
  rcases hu with rfl | rfl | rfl <;> rfl
theorem box_putqRn {w : World} {g : Nat} {t : TypeId} {cs : Array Value} (h : BoxAt w g t cs) (j : Nat) (v : Value) : BoxAt (w.setCell ⟨g, j, none⟩ v) g t (cs.setIfInBounds j v) := by
 unfold BoxAt at h ⊢
 simp [World.setCell, Array.getElem?_modify, h]
theorem own_putqRn {w : World} {q base size n j : Nat} {e : TypeId} {v u : Value} {xs : List Value} (h : w.ownsRow base e size v n xs) (hq : q < base) : (w.setCell ⟨q, j, none⟩ u).ownsRow base e size v n xs := by
 refine ⟨h.1, ?_⟩
 rcases h.2 with hn | ⟨g, cap, cur, hv, hg, hh, rest⟩
 ·
  exact .inl hn
 ·
  exact .inr ⟨g, cap, cur, hv, hg, (Below.heap_setCell w _ u g (by show g ≠ q; omega)).trans hh, rest⟩
theorem ownz_putqRn {w : World} {q base size n j : Nat} {e : TypeId} {v u : Value} {xs : List Value} (h : OwnZ w base e size v n xs) (hq : q < base) : OwnZ (w.setCell ⟨q, j, none⟩ u) base e size v n xs := h.imp (fun h => own_putqRn h hq) id
/-- What the closure leaves: what was sent in block q, in a row that is its own. -/
def HoldS (q base : Nat) (out : List TSent) (w : World) : Prop := ∃ v, BoxAt w q 41 #[v] ∧ OwnZ w base 47 3 v out.length (cSent out)
theorem chgT_putRn {q base : Nat} {E : TypeId} {w w' : World} (h : ChgTRn q base E w w') (j : Nat) (u : Value) : ChgTRn q base E w (w'.setCell ⟨q, j, none⟩ u) :=
 ⟨h.os, h.tape, h.output, by simpa [World.setCell] using h.size, fun i hi hq hc => (Below.heap_setCell w' _ u i (by exact hq)).trans (h.block i hi hq hc)⟩
theorem own_TRn {w w' : World} {base size n : Nat} {e : TypeId} {v : Value} {xs : List Value} (h : w.ownsRow base e size v n xs) (hg : w.grownBy w' v.ownBlock) (q : Nat) : ChgTRn q base e w w' :=
 ⟨hg.os, hg.tape, hg.output, hg.size, fun k hk _ hc => hg.block k hk (fun e1 => by
  rcases h.2 with ⟨rfl, _⟩ | ⟨g, cap, cur, rfl, hgb, hh, rest⟩
  ·
   cases e1
  ·
   simp only [Value.ownBlock, Option.some.injEq] at e1
   subst e1
   rcases hc with hc | hc
   ·
    omega
   ·
    exact hc _ _ hh)⟩
theorem run_appzTRn {P : Program} {w : World} (base : Nat) (t ty e : TypeId) (z : Value) (size bytes : Nat) (ht : P.underlying t = some (.slice e)) (hinfo : (P.info? e).map (fun i => (i.zero, i.size, i.bytes)) = some (some z, size, bytes))
  (hzs : z.cells.size = size) (hsz : 0 < size) (v : Value) (n : Nat) (xs : List Value) (hown : OwnZ w base e size v n xs)
  (lo hi : Nat) (A : Option Addr) (m c : Nat) (news : List Value) (hr : Rd w lo hi size A m news) (h1 : ∀ u ∈ news, u.oneCell' = true)
  (h63 : n + m ≤ maxLen) (hbytes : (n + m) * bytes ≤ 140737488355328) (hbase : base ≤ w.heap.size) :
  ∃ v' w', (Builtin.append_ #[t, t] ty #[v, .slice A m c]).run P w = .ok v' w' ∧ OwnZ w' base e size v' (n + m) (xs ++ news) ∧ Below base w w' ∧ ∀ q, ChgTRn q base e w w' := by
 rcases hown with hown | ⟨rfl, rfl, B, rfl⟩
 ·
  obtain ⟨v', w', hrun, h2, h3, _⟩ := run_app (P := P) base t ty e z size bytes ht hinfo hzs hsz v n xs hown lo hi A m c news hr h1 h63 hbytes hbase
  exact ⟨v', w', hrun, .inl h2, below_of_grown hown hbase h3, own_TRn hown h3⟩
 ·
  rcases B with _ | b
  ·
   obtain ⟨v', w', hrun, h2, h3, _⟩ := run_app (P := P) base t ty e z size bytes ht hinfo hzs hsz (.slice none 0 0) 0 [] (World.ownsRow_nil w base e size) lo hi A m c news hr h1 h63 hbytes hbase
   exact ⟨v', w', hrun, .inl h2, below_of_grown (World.ownsRow_nil w base e size) hbase h3, own_TRn (World.ownsRow_nil w base e size) h3⟩
  ·
   obtain ⟨i, hi', hz, hsize, hby⟩ := info_parts hinfo
   rcases Nat.eq_zero_or_pos m with hm | hm
   ·
    subst hm
    have hn : news = [] := List.eq_nil_of_length_eq_zero (by simpa using hr.1)
    subst hn
    have hf : ∀ W : World, (Builtin.firstCells i.size 0 (.slice A 0 c)).run P W = .ok #[] W := by
     intro W
     rcases A with _ | a
     ·
      simp [Builtin.firstCells]
     ·
      exact run_firstCells_some (P := P) W i.size 0 a 0 c [] (by simp) (fun j u hu => by simp at hu)
    have hrun : (Builtin.append_ #[t, t] ty #[.slice (some b) 0 0, .slice A 0 c]).run P w = .ok (.slice (some b) 0 0) w := by
     simp [Builtin.append_, run_underlying ht, sizeOf, typeInfo, hi', Builtin.lenOf, hf, storeCells]
    exact ⟨_, w, hrun, .inr ⟨rfl, rfl, _, rfl⟩, Below.refl _ _, fun q => chgT_newRn (Below.refl _ _)⟩
   ·
    obtain ⟨bb, off, hA, _, _, hc⟩ := hr.2 hm
    subst hA
    obtain ⟨v', w', hrun, h2, h3⟩ := run_append_arg_grows (P := P) w t ty e i z size bytes ht hi' hz hsize hby hzs hsz b 0 0 [] (by simp) (fun j u hu => by simp at hu) ⟨bb, off, none⟩ m c news hr.1
     (fun j u hu => by rw [add_plain0]; exact hc j u hu) (by omega) h63 hbytes
    refine ⟨v', w', hrun, .inl ?_, ⟨h3.os, h3.tape, h3.output, h3.size, fun k hk => h3.block k (by omega) (by simp)⟩, fun q => ⟨h3.os, h3.tape, h3.output, h3.size, fun k hk _ _ => h3.block k hk (by simp)⟩⟩
    refine ⟨h2.1, ?_⟩
    rcases h2.2 with h | ⟨g, cap, cur, hv, hg, rest⟩
    ·
     exact .inl h
    ·
     exact .inr ⟨g, cap, cur, hv, by omega, rest⟩
theorem wp_appz_litTRn {P : Program} {w : World} {ops : Array Oper} {rest : List Oper} {o : Oper} {a : Act} {Q : Exit → Act → World → Prop} (hgd : o.guard = none) (s x : Operand) (t : TypeId)
  (ho : o.op = .call { callee := .builtin .append, args := #[s, x], argTypes := #[t, t] })
  (base : Nat) (e : TypeId) (z : Value) (size bytes : Nat) (ht : P.underlying t = some (.slice e)) (hinfo : (P.info? e).map (fun i => (i.zero, i.size, i.bytes)) = some (some z, size, bytes))
  (hzs : z.cells.size = size) (hsz : 0 < size) (v : Value) (n : Nat) (xs : List Value) (hs : a.eval s = v) (hown : OwnZ w base e size v n xs)
  (us : Array Value) (m c g : Nat) (hx : a.eval x = .slice (some ⟨g, 0, none⟩) m c) (hg : g = w.heap.size) (hus : us.size = m * size) (h1 : ∀ u ∈ us.toList, u.oneCell' = true)
  (h63 : n + m ≤ maxLen) (hbytes : (n + m) * bytes ≤ 140737488355328) (hbase : base ≤ w.heap.size)
  (h : ∀ v' w', OwnZ w' base e size v' (n + m) (xs ++ us.toList) → Below base w w' → (∀ q, ChgTRn q base e w w') → wpList P ops Q rest (a.put o.dst v') w') : wpList P ops Q (o :: rest) a (w.alloc (.cells us e)) := by
 subst hg
 refine wpList_plain hgd fun K hK => ?_
 obtain ⟨v', w', hrun, h2, h3, h4⟩ := run_appzTRn (P := P) base t o.type e z size bytes ht hinfo hzs hsz v n xs (hown.alloc _) _ _ _ m c us.toList (rd_lit w us e m size hus) h1 h63 hbytes (by simp; omega)
 unfold Oper.wp execOp
 simp only [ho, resolve, invoke, builtin, Sem.run_bind, Sem.run_pure, Result.andThen_ok, List.map_toArray, List.map_cons, List.map_nil, hs, hx, hrun]
 exact hK _ _ (h v' w' h2 (((Below.refl _ _).alloc hbase _).trans h3) (fun q => chgT_afterRn ((Below.refl _ _).alloc (Nat.le_refl _) _) (h4 q)))
theorem chgT_trRn {q base : Nat} {E : TypeId} {w w' w'' : World} (h : ChgTRn q base E w w') (k : ChgTRn q base E w' w'') (hk : ∀ p, p < w.heap.size → (p < base ∨ ∀ cs z, w.heap[p]? ≠ some (.cells cs E z)) → p ≠ q → w'.heap[p]? = w.heap[p]?) : ChgTRn q base E w w'' :=
 ⟨k.os.trans h.os, k.tape.trans h.tape, k.output.trans h.output, Nat.le_trans h.size k.size, fun i hi hq hc => (k.block i (Nat.lt_of_lt_of_le hi h.size) hq (by rw [hk i hi hc hq]; exact hc)).trans (hk i hi hc hq)⟩
theorem ChgTRn.trans {q base : Nat} {E : TypeId} {w w' w'' : World} (h : ChgTRn q base E w w') (k : ChgTRn q base E w' w'') : ChgTRn q base E w w'' := chgT_trRn h k fun p hp hc hq => h.block p hp hq hc
theorem HoldS.keep {q base : Nat} {out : List TSent} {w w' : World} (h : HoldS q base out w) (hb : Below w.heap.size w w') : HoldS q base out w' := by
  obtain ⟨v, h1, h2⟩ := h
  exact ⟨v, h1.new hb, h2.imp (fun h => own_newer h hb) id⟩
theorem HoldS.chg {q base g : Nat} {out : List TSent} {w w' : World} (h : HoldS q base out w) (hc : Chg g (g + 1) w w') (hq : q ≠ g) (hg : g < base) : HoldS q base out w' := by
  obtain ⟨v, h1, h2⟩ := h
  refine ⟨v, h1.chg hc (by omega), h2.imp (fun h => ⟨h.1, ?_⟩) id⟩
  rcases h.2 with hn | ⟨r, cap, cur, hv, hr, hh, rest⟩
  · exact .inl hn
  · exact .inr ⟨r, cap, cur, hv, hr, by rw [hc.block r (Array.getElem?_eq_some_iff.1 hh).1 (by omega)]; exact hh, rest⟩
set_option maxHeartbeats 16000000 in
theorem clo_Rn (l : List TFlow) (Al : Option Addr) (nl cl lo hi : Nat) (e t0 z y : Int) (fb x q base : Nat) (out : List TSent) (w : World) (hn : nl ≤ 1048576) (hr : Rd w lo hi 3 Al nl (cFlow l)) (Hl : Hid (cFlowOk l)) (hf : BoxAt w fb 24 #[.slice Al nl cl]) (hx : BoxAt w x 3 #[.int .i64 e]) (h : HoldS q base out w) (hq : q < base) (hfq : fb ≠ q) (hxq : x ≠ q) (hb : base ≤ w.heap.size) (ho : out.length ≤ 10000000) :
    Calls Try.prog 72 #[.int .i64 t0, .agg #[.int .i64 z, .int .i64 y], .pointer (some ⟨fb, 0, none⟩), .pointer (some ⟨x, 0, none⟩), .pointer (some ⟨q, 0, none⟩)] w (fun e' w' => e' = .returned (.tuple #[]) ∧ HoldS q base (if mayS l e ⟨t0, z, y⟩ = true then out ++ [⟨t0, z, y⟩] else out) w' ∧ ChgTRn q base 47 w w') := by
  have CM := Lib.hid (fun W (hb : Below w.heap.size w W) => impl_MayFlow l Al nl cl lo hi e y t0 W hn (hr.new hb) Hl)
  obtain ⟨r, hrr⟩ : ∃ r, mMayF l e y t0 = r := ⟨_, rfl⟩
  have HM : Hid (mayS l e ⟨t0, z, y⟩ = r) := Lib.hid hrr
  rw [hrr] at CM
  rw [HM.out]
  clear hrr hr
  have KC := Lib.hid (box_new w 100 #[.int .i64 z, .int .i64 y])
  have HB0 := Lib.hid ((Below.refl w.heap.size w).alloc (Nat.le_refl _) (.cells #[.int .i64 z, .int .i64 y] 100))
  have HQ : Hid (HoldS q base out (w.alloc (.cells #[.int .i64 z, .int .i64 y] 100))) := Lib.hid (h.keep HB0.out)
  have hfl := hf.lt
  have hxl := hx.lt
  have c0 := hf.at_ (j := 0) (u := .slice Al nl cl) rfl
  have c1 := hx.at_ (j := 0) (u := .int .i64 e) rfl
  clear h
  go_enter Try.func72, Try.ntmps72
  go_wp2_with fail
  refine (CM.out _ HB0.out).mono ?_
  rintro e' w1 ⟨rfl, hb1⟩
  have HB1 := Lib.hid (below_trans HB0.out hb1 (by simp))
  replace KC := Lib.hid (KC.out.new hb1)
  replace HQ := Lib.hid (HQ.out.keep hb1)
  have hs1 : w.heap.size ≤ w1.heap.size := HB1.out.size
  clear hb1 HB0 CM c0 c1
  cases r with
  | false =>
    go_wp2_with fail
    refine bodyPost_end (v := .tuple #[]) (by simp [results, Try.results72, go_sem]) rfl ?_
    exact ⟨rfl, by simpa using HQ.out, chgT_newRn HB1.out⟩
  | true =>
    obtain ⟨v, hv1, hv2⟩ := HQ.out
    obtain ⟨Ao, co, rfl, _⟩ := fr_of_ownz hv2
    have HQ1 := Lib.hid hv1
    have HO := Lib.hid hv2
    clear hv1 hv2 HQ
    have k0 := KC.out.at_ (j := 0) (u := .int .i64 z) rfl
    have k1 := KC.out.at_ (j := 1) (u := .int .i64 y) rfl
    have cq := HQ1.out.at_ (j := 0) (u := .slice Ao out.length co) rfl
    have hql := HQ1.out.lt
    go_wp2_with (at_builtin; refine wp_appz_litTRn rfl _ _ _ rfl base 47 (.agg #[.int .i64 0, .int .i64 0, .int .i64 0]) 3 24 Try.underlying41 info_sent rfl (by decide) _ _ _ rfl HO.out #[.int .i64 t0, .int .i64 z, .int .i64 y] 1 1 _ rfl (by simp) rfl (one_sent _ _ _) (by unfold maxLen; omega) (by omega) (by omega) ?_; intro v1 w3 ho1 hb1 hct; have HO3 := Lib.hid (show OwnZ w3 base 47 3 v1 (out ++ [(⟨t0, z, y⟩ : TSent)]).length (cSent (out ++ [⟨t0, z, y⟩])) by have := ho1; simpa [cSent, TSent.cells] using this); have HC3 := Lib.hid (hct q); have HQ3 := Lib.hid (HQ1.out.keep (hb1.block q hq)); obtain ⟨Av, cv, rfl, _⟩ := fr_of_ownz HO3.out; have cq3 := HQ3.out.at_ (j := 0) (u := .slice Ao out.length co) rfl; have fq3 := HQ3.out.free 0; clear ho1 hb1 hct k0 k1 cq)
    go_wp2_with fail
    have HQ4 := Lib.hid (box_putqRn HQ3.out 0 (.slice Av (out ++ [(⟨t0, z, y⟩ : TSent)]).length cv))
    refine bodyPost_end (v := .tuple #[]) (by simp [results, Try.results72, go_sem]) rfl ?_
    refine ⟨rfl, ?_, chgT_putRn (chgT_afterRn HB1.out HC3.out) 0 _⟩
    exact ⟨.slice Av (out ++ [(⟨t0, z, y⟩ : TSent)]).length cv, by simpa using HQ4.out, by simpa using (ownz_putqRn (u := .slice Av (out.length + 1) cv) (j := 0) HO3.out hq)⟩
theorem mcell_boxR {w : World} {g n1 c1 : Nat} {A1 : Option Addr} {sv : Value} (h : BoxAt w g 104 #[.slice A1 n1 c1, sv, .int .i64 0, .int .i64 0, .int .i64 0, .int .i64 0, .int .i64 0, .int .i64 0, .int .i64 0, .int .i64 0, .int .i64 0, .int .i64 0, .int .i64 0, .int .i64 0]) : MCell w g A1 n1 c1 sv (List.replicate 6 0) (List.replicate 6 0) := by
  refine ⟨_, h, rfl, fun i hi => ?_⟩
  obtain rfl | rfl | rfl | rfl | rfl | rfl | rfl | rfl | rfl | rfl | rfl | rfl | rfl | rfl : i = 0 ∨ i = 1 ∨ i = 2 ∨ i = 3 ∨ i = 4 ∨ i = 5 ∨ i = 6 ∨ i = 7 ∨ i = 8 ∨ i = 9 ∨ i = 10 ∨ i = 11 ∨ i = 12 ∨ i = 13 := by omega
  all_goals rfl
set_option maxHeartbeats 16000000 in
theorem impl_RunOpsC (l : List TOp) (A : Option Addr) (n c lo hi : Nat) (l1 : List Int) (A1 : Option Addr) (n1 c1 lo1 hi1 : Nat) (l2 : List TFlow) (A2 : Option Addr) (n2 c2 lo2 hi2 : Nat) (ext : Int) (w : World) (hn : n ≤ 1048576) (hr : Rd w lo hi 4 A n (cOp l)) (hcap : n ≤ c) (H : Hid (cOpOk l)) (hn1 : n1 ≤ 1048576) (hr1 : Rd w lo1 hi1 1 A1 n1 (i64s l1)) (hcap1 : n1 ≤ c1) (H1 : Hid (I64s l1)) (hn2 : n2 ≤ 1048576) (hr2 : Rd w lo2 hi2 3 A2 n2 (cFlow l2)) (hcap2 : n2 ≤ c2) (H2 : Hid (cFlowOk l2)) (we : (Lit.int .i64 ext).wf = true) :
    Calls Try.prog 20 #[.slice A n c, .slice A1 n1 c1, .slice A2 n2 c2, .int .i64 ext] w (Makes 47 3 (mRunO l l1 l2 ext).length (cSent (mRunO l l1 l2 ext)) w) := by
  have HR := Lib.hid (hr.old (by decide))
  have HR1 := Lib.hid (hr1.old (by decide))
  have HR2 := Lib.hid (hr2.old (by decide))
  clear hr hr1 hr2
  have hmf : ∀ (fn : Fn) (first cap : Array Value) (w : World), (Instr.makeFunc fn first cap).run Try.prog w = .ok (.func fn first cap) w := fun _ _ _ _ => rfl
  obtain ⟨Q, HQ⟩ : ∃ Q, Hid (mRunO l l1 l2 ext = Q) := ⟨_, Lib.hid rfl⟩
  rw [HQ.out]
  have KF0 := Lib.hid (show BoxAt (((((w.alloc (.cells #[.slice A2 n2 c2] 24)).alloc (.cells #[.int .i64 ext] 3)).alloc (.cells #[] 47)).alloc (.cells #[.slice (some ⟨w.heap.size + 1 + 1, 0, none⟩) 0 0] 41)).alloc (.cells #[.slice none 0 0, .nilFunc, .int .i64 0, .int .i64 0, .int .i64 0, .int .i64 0, .int .i64 0, .int .i64 0, .int .i64 0, .int .i64 0, .int .i64 0, .int .i64 0, .int .i64 0, .int .i64 0] 104)) w.heap.size 24 #[.slice A2 n2 c2] from ((((box_new w 24 #[.slice A2 n2 c2]).alloc_ _).alloc_ _).alloc_ _).alloc_ _)
  have KX0 := Lib.hid (show BoxAt (((((w.alloc (.cells #[.slice A2 n2 c2] 24)).alloc (.cells #[.int .i64 ext] 3)).alloc (.cells #[] 47)).alloc (.cells #[.slice (some ⟨w.heap.size + 1 + 1, 0, none⟩) 0 0] 41)).alloc (.cells #[.slice none 0 0, .nilFunc, .int .i64 0, .int .i64 0, .int .i64 0, .int .i64 0, .int .i64 0, .int .i64 0, .int .i64 0, .int .i64 0, .int .i64 0, .int .i64 0, .int .i64 0, .int .i64 0] 104)) (w.heap.size + 1) 3 #[.int .i64 ext] from BoxAt.alloc_ (BoxAt.alloc_ (BoxAt.alloc_ (by simpa using box_new (w.alloc (.cells #[.slice A2 n2 c2] 24)) 3 #[.int .i64 ext]) _) _) _)
  have KQ0 := Lib.hid (show BoxAt (((((w.alloc (.cells #[.slice A2 n2 c2] 24)).alloc (.cells #[.int .i64 ext] 3)).alloc (.cells #[] 47)).alloc (.cells #[.slice (some ⟨w.heap.size + 1 + 1, 0, none⟩) 0 0] 41)).alloc (.cells #[.slice none 0 0, .nilFunc, .int .i64 0, .int .i64 0, .int .i64 0, .int .i64 0, .int .i64 0, .int .i64 0, .int .i64 0, .int .i64 0, .int .i64 0, .int .i64 0, .int .i64 0, .int .i64 0] 104)) (w.heap.size + 1 + 1 + 1) 41 #[.slice (some ⟨w.heap.size + 1 + 1, 0, none⟩) 0 0] from BoxAt.alloc_ (by simpa using box_new (((w.alloc (.cells #[.slice A2 n2 c2] 24)).alloc (.cells #[.int .i64 ext] 3)).alloc (.cells #[] 47)) 41 #[.slice (some ⟨w.heap.size + 1 + 1, 0, none⟩) 0 0]) _)
  have KG0 := Lib.hid (show BoxAt (((((w.alloc (.cells #[.slice A2 n2 c2] 24)).alloc (.cells #[.int .i64 ext] 3)).alloc (.cells #[] 47)).alloc (.cells #[.slice (some ⟨w.heap.size + 1 + 1, 0, none⟩) 0 0] 41)).alloc (.cells #[.slice none 0 0, .nilFunc, .int .i64 0, .int .i64 0, .int .i64 0, .int .i64 0, .int .i64 0, .int .i64 0, .int .i64 0, .int .i64 0, .int .i64 0, .int .i64 0, .int .i64 0, .int .i64 0] 104)) (w.heap.size + 1 + 1 + 1 + 1) 104 #[.slice none 0 0, .nilFunc, .int .i64 0, .int .i64 0, .int .i64 0, .int .i64 0, .int .i64 0, .int .i64 0, .int .i64 0, .int .i64 0, .int .i64 0, .int .i64 0, .int .i64 0, .int .i64 0] by simpa using box_new ((((w.alloc (.cells #[.slice A2 n2 c2] 24)).alloc (.cells #[.int .i64 ext] 3)).alloc (.cells #[] 47)).alloc (.cells #[.slice (some ⟨w.heap.size + 1 + 1, 0, none⟩) 0 0] 41)) 104 #[.slice none 0 0, .nilFunc, .int .i64 0, .int .i64 0, .int .i64 0, .int .i64 0, .int .i64 0, .int .i64 0, .int .i64 0, .int .i64 0, .int .i64 0, .int .i64 0, .int .i64 0, .int .i64 0])
  have HB0 := Lib.hid (show Below w.heap.size w (((((w.alloc (.cells #[.slice A2 n2 c2] 24)).alloc (.cells #[.int .i64 ext] 3)).alloc (.cells #[] 47)).alloc (.cells #[.slice (some ⟨w.heap.size + 1 + 1, 0, none⟩) 0 0] 41)).alloc (.cells #[.slice none 0 0, .nilFunc, .int .i64 0, .int .i64 0, .int .i64 0, .int .i64 0, .int .i64 0, .int .i64 0, .int .i64 0, .int .i64 0, .int .i64 0, .int .i64 0, .int .i64 0, .int .i64 0] 104)) from (((((Below.refl w.heap.size w).alloc (Nat.le_refl _) _).alloc (by simp) _).alloc (by simp <;> omega) _).alloc (by simp <;> omega) _).alloc (by simp <;> omega) _)
  have HS0 : (((((w.alloc (.cells #[.slice A2 n2 c2] 24)).alloc (.cells #[.int .i64 ext] 3)).alloc (.cells #[] 47)).alloc (.cells #[.slice (some ⟨w.heap.size + 1 + 1, 0, none⟩) 0 0] 41)).alloc (.cells #[.slice none 0 0, .nilFunc, .int .i64 0, .int .i64 0, .int .i64 0, .int .i64 0, .int .i64 0, .int .i64 0, .int .i64 0, .int .i64 0, .int .i64 0, .int .i64 0, .int .i64 0, .int .i64 0] 104)).heap.size = w.heap.size + 5 := by simp
  obtain ⟨w1, hx⟩ : ∃ X, X = World.setRow (((((w.alloc (.cells #[.slice A2 n2 c2] 24)).alloc (.cells #[.int .i64 ext] 3)).alloc (.cells #[] 47)).alloc (.cells #[.slice (some ⟨w.heap.size + 1 + 1, 0, none⟩) 0 0] 41)).alloc (.cells #[.slice none 0 0, .nilFunc, .int .i64 0, .int .i64 0, .int .i64 0, .int .i64 0, .int .i64 0, .int .i64 0, .int .i64 0, .int .i64 0, .int .i64 0, .int .i64 0, .int .i64 0, .int .i64 0] 104)) (w.heap.size + 1 + 1 + 1 + 1) #[.slice A1 n1 c1, (.func (.func 72) #[] #[.pointer (some ⟨w.heap.size, 0, none⟩), .pointer (some ⟨w.heap.size + 1, 0, none⟩), .pointer (some ⟨w.heap.size + 1 + 1 + 1, 0, none⟩)]), .int .i64 0, .int .i64 0, .int .i64 0, .int .i64 0, .int .i64 0, .int .i64 0, .int .i64 0, .int .i64 0, .int .i64 0, .int .i64 0, .int .i64 0, .int .i64 0] := ⟨_, rfl⟩
  have HX1 := Lib.hid hx
  have KG1 := Lib.hid (show BoxAt w1 (w.heap.size + 1 + 1 + 1 + 1) 104 #[.slice A1 n1 c1, (.func (.func 72) #[] #[.pointer (some ⟨w.heap.size, 0, none⟩), .pointer (some ⟨w.heap.size + 1, 0, none⟩), .pointer (some ⟨w.heap.size + 1 + 1 + 1, 0, none⟩)]), .int .i64 0, .int .i64 0, .int .i64 0, .int .i64 0, .int .i64 0, .int .i64 0, .int .i64 0, .int .i64 0, .int .i64 0, .int .i64 0, .int .i64 0, .int .i64 0] by rw [hx]; exact box_row KG0.out)
  have KF1 := Lib.hid (show BoxAt w1 w.heap.size 24 #[.slice A2 n2 c2] by rw [hx]; exact box_far KF0.out (by omega))
  have KX1 := Lib.hid (show BoxAt w1 (w.heap.size + 1) 3 #[.int .i64 ext] by rw [hx]; exact box_far KX0.out (by omega))
  have KQ1 := Lib.hid (show BoxAt w1 (w.heap.size + 1 + 1 + 1) 41 #[.slice (some ⟨w.heap.size + 1 + 1, 0, none⟩) 0 0] by rw [hx]; exact box_far KQ0.out (by omega))
  have HB1 := Lib.hid (show Below w.heap.size w w1 by rw [hx]; exact below_setRow HB0.out (by omega) _)
  have hs1 : w.heap.size + 5 ≤ w1.heap.size := by rw [hx]; simp
  clear hx KF0 KX0 KQ0 HB0 HS0
  go_enter Try.func20, Try.ntmps20
  go_wp2_with (refine wpList_store_row rfl 104 _ _ rfl (w.heap.size + 1 + 1 + 1 + 1) #[.slice A1 n1 c1, (.func (.func 72) #[] #[.pointer (some ⟨w.heap.size, 0, none⟩), .pointer (some ⟨w.heap.size + 1, 0, none⟩), .pointer (some ⟨w.heap.size + 1 + 1 + 1, 0, none⟩)]), .int .i64 0, .int .i64 0, .int .i64 0, .int .i64 0, .int .i64 0, .int .i64 0, .int .i64 0, .int .i64 0, .int .i64 0, .int .i64 0, .int .i64 0, .int .i64 0] rfl rfl 104 _ KG0.out (by kernel_rfl) (by kernel_rfl) (by kernel_rfl) ?_; rw [← HX1.out]; clear HX1)
  clear KG0
  have hM := mcell_boxR KG1.out
  have hH : HoldS (w.heap.size + 1 + 1 + 1) (w.heap.size + 5) (mRnF l2 ext []) w1 := ⟨_, KQ1.out, .inr ⟨rfl, rfl, _, rfl⟩⟩
  refine (mc_Run_Rn l A n c 0 w.heap.size l1 A1 n1 c1 0 w.heap.size (w.heap.size + 1 + 1 + 1 + 1) (w.heap.size + 1 + 1 + 1) w.heap.size (w.heap.size + 5) 47 #[.pointer (some ⟨w.heap.size, 0, none⟩), .pointer (some ⟨w.heap.size + 1, 0, none⟩), .pointer (some ⟨w.heap.size + 1 + 1 + 1, 0, none⟩)]
    (fun s W => HoldS (w.heap.size + 1 + 1 + 1) (w.heap.size + 5) (mRnF l2 ext s) W ∧ BoxAt W w.heap.size 24 #[.slice A2 n2 c2] ∧ BoxAt W (w.heap.size + 1) 3 #[.int .i64 ext] ∧ w.heap.size + 5 ≤ W.heap.size) w1 hn1 (HR1.out.below HB1.out (Nat.le_refl _)) H1 (Nat.le_refl _) hn (HR.out.below HB1.out (Nat.le_refl _)) (Nat.le_refl _) hcap H (by omega) (by omega) (by omega) (by omega) (by omega) (by decide) (by decide) hM ⟨hH, KF1.out, KX1.out, hs1⟩
    (fun s W W' h hc => ⟨h.1.chg hc (by omega) (by omega), h.2.1.chg hc (by omega), h.2.2.1.chg hc (by omega), Nat.le_trans h.2.2.2 hc.size⟩)
    (fun s W t0 z y h hsl _ _ hy hbw => (clo_Rn l2 A2 n2 c2 0 w.heap.size ext t0 z y w.heap.size (w.heap.size + 1) (w.heap.size + 1 + 1 + 1) (w.heap.size + 5) (mRnF l2 ext s) W hn2 ((HR2.out.below HB1.out (Nat.le_refl _)).below hbw (Nat.le_refl _)) H2 h.2.1 h.2.2.1 h.1 (by omega) (by omega) (by omega) h.2.2.2 (Nat.le_trans (mRnF_len l2 ext s) (by omega))).mono (fun e W' hh => by
      obtain ⟨rfl, h1, h2⟩ := hh
      exact ⟨rfl, ⟨by rw [mRnF_snoc]; exact h1, h2.box h.2.1 (by omega) (by decide), h2.box h.2.2.1 (by omega) (by decide), Nat.le_trans h.2.2.2 h2.size⟩, h2⟩))).mono ?_
  rintro e w2 ⟨rfl, -, ⟨hh2, -, -, -⟩, hb2⟩
  have HB2 := Lib.hid (HB1.out.trans hb2)
  have HQ2 : Hid (HoldS (w.heap.size + 1 + 1 + 1) (w.heap.size + 5) Q w2) := Lib.hid (by
    rw [← HQ.out]
    unfold mRunO
    cases hA : mAreOps l with
    | false => rw [hA] at hh2; exact hh2
    | true => rw [hA] at hh2; exact hh2)
  clear hM hH hb2 hh2 KG1 HB1 KX1 KQ1 KF1
  obtain ⟨v, hv1, hv2⟩ := HQ2.out
  obtain ⟨A3, c3, rfl, hF⟩ := fr_of_ownz hv2
  have HF := Lib.hid (hF.mono (show w.heap.size ≤ w.heap.size + 5 by omega) (Nat.le_refl _))
  have k0 := hv1.at_ (j := 0) (u := .slice A3 Q.length c3) rfl
  clear hv1 hv2 hF HQ2
  go_wp2_with fail
  go_ret
  exact ⟨_, _, rfl, HF.out, HB2.out⟩
end Go.Proofs.Ytcankpiidjhhpaa
