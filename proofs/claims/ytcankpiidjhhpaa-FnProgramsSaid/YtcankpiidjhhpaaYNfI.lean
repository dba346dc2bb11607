/- NfI, what is needed of it. -/
import Derived.Test.YtcankpiidjhhpaaYNfM
import Derived.Test.YtcankpiidjhhpaaYMcRNf
import Derived.Test.YtcankpiidjhhpaaYFlowsWithin
import Derived.Test.YtcankpiidjhhpaaYAppO
import Derived.Test.YtcankpiidjhhpaaYGc
import Derived.Deep.RegionHeld3
import Derived.Deep.LoopGhost
import Derived.Deep.DeepCutAuto
namespace Go.Proofs.Ytcankpiidjhhpaa
open Go Go.ChangeShapes Go.WideShapes Go.ChangeAt Go.RowKit Go.Lib
set_option linter.unusedVariables false
set_option linter.unusedSimpArgs false
set_option maxRecDepth 100000

theorem info_flow : (Try.prog.info? 87).map (fun i => (i.zero, i.size, i.bytes)) = some (some (.agg #[.int .i64 0, .int .i64 0, .int .i64 0]), 3, 24) := by kernel_rfl
theorem one_flow (x y z : Int) : ∀ u ∈ (#[Value.int .i64 x, .int .i64 y, .int .i64 z]).toList, u.oneCell' = true := by
 intro u hu
 simp only [List.mem_cons, List.not_mem_nil, or_false] at hu
 rcases hu with rfl | rfl | rfl <;> rfl
theorem box_putq {w : World} {g : Nat} {t : TypeId} {cs : Array Value} (h : BoxAt w g t cs) (j : Nat) (v : Value) : BoxAt (w.setCell ⟨g, j, none⟩ v) g t (cs.setIfInBounds j v) := by
 unfold BoxAt at h ⊢
 simp [World.setCell, Array.getElem?_modify, h]
theorem own_putq {w : World} {q base size n j : Nat} {e : TypeId} {v u : Value} {xs : List Value} (h : w.ownsRow base e size v n xs) (hq : q < base) : (w.setCell ⟨q, j, none⟩ u).ownsRow base e size v n xs := by
 refine ⟨h.1, ?_⟩
 rcases h.2 with hn | ⟨g, cap, cur, hv, hg, hh, rest⟩
 ·
  exact .inl hn
 ·
  exact .inr ⟨g, cap, cur, hv, hg, (Below.heap_setCell w _ u g (by show g ≠ q; omega)).trans hh, rest⟩
theorem ownz_putq {w : World} {q base size n j : Nat} {e : TypeId} {v u : Value} {xs : List Value} (h : OwnZ w base e size v n xs) (hq : q < base) : OwnZ (w.setCell ⟨q, j, none⟩ u) base e size v n xs := h.imp (fun h => own_putq h hq) id
/-- What the closure leaves: the needed flows in block q, in a row that is its own. -/
def HoldF (q base : Nat) (out : List TFlow) (w : World) : Prop := ∃ v, BoxAt w q 24 #[v] ∧ OwnZ w base 87 3 v out.length (cFlow out)
theorem cFlow_snoc (out : List TFlow) (x : TFlow) : cFlow (out ++ [x]) = cFlow out ++ x.cells := by simp [cFlow]
theorem chgT_trans {q base : Nat} {E : TypeId} {w w' w'' : World} (h : ChgT q base E w w') (k : Below w'.heap.size w' w'') : ChgT q base E w w'' :=
 ⟨k.os.trans h.os, k.tape.trans h.tape, k.output.trans h.output, Nat.le_trans h.size k.size, fun i hi hq hc => (k.block i (Nat.lt_of_lt_of_le hi h.size)).trans (h.block i hi hq hc)⟩
theorem chgT_put {q base : Nat} {E : TypeId} {w w' : World} (h : ChgT q base E w w') (j : Nat) (u : Value) : ChgT q base E w (w'.setCell ⟨q, j, none⟩ u) :=
 ⟨h.os, h.tape, h.output, by simpa [World.setCell] using h.size, fun i hi hq hc => (Below.heap_setCell w' _ u i (by exact hq)).trans (h.block i hi hq hc)⟩
theorem own_T {w w' : World} {base size n : Nat} {e : TypeId} {v : Value} {xs : List Value} (h : w.ownsRow base e size v n xs) (hg : w.grownBy w' v.ownBlock) (q : Nat) : ChgT q base e w w' :=
 ⟨hg.os, hg.tape, hg.output, hg.size, fun k hk _ hc => hg.block k hk (fun e1 => by
  rcases h.2 with ⟨rfl, _⟩ | ⟨g, cap, cur, rfl, hgb, hh, rest⟩
  ·
   cases e1
  ·
   simp only [Value.ownBlock, Option.some.injEq] at e1
   subst e1
   rcases hc with hc | hc
   ·
    omega
   ·
    exact hc _ _ hh)⟩
theorem run_appzT {P : Program} {w : World} (base : Nat) (t ty e : TypeId) (z : Value) (size bytes : Nat) (ht : P.underlying t = some (.slice e)) (hinfo : (P.info? e).map (fun i => (i.zero, i.size, i.bytes)) = some (some z, size, bytes))
  (hzs : z.cells.size = size) (hsz : 0 < size) (v : Value) (n : Nat) (xs : List Value) (hown : OwnZ w base e size v n xs)
  (lo hi : Nat) (A : Option Addr) (m c : Nat) (news : List Value) (hr : Rd w lo hi size A m news) (h1 : ∀ u ∈ news, u.oneCell' = true)
  (h63 : n + m ≤ maxLen) (hbytes : (n + m) * bytes ≤ 140737488355328) (hbase : base ≤ w.heap.size) :
  ∃ v' w', (Builtin.append_ #[t, t] ty #[v, .slice A m c]).run P w = .ok v' w' ∧ OwnZ w' base e size v' (n + m) (xs ++ news) ∧ Below base w w' ∧ ∀ q, ChgT q base e w w' := by
 rcases hown with hown | ⟨rfl, rfl, B, rfl⟩
 ·
  obtain ⟨v', w', hrun, h2, h3, _⟩ := run_app (P := P) base t ty e z size bytes ht hinfo hzs hsz v n xs hown lo hi A m c news hr h1 h63 hbytes hbase
  exact ⟨v', w', hrun, .inl h2, below_of_grown hown hbase h3, own_T hown h3⟩
 ·
  rcases B with _ | b
  ·
   obtain ⟨v', w', hrun, h2, h3, _⟩ := run_app (P := P) base t ty e z size bytes ht hinfo hzs hsz (.slice none 0 0) 0 [] (World.ownsRow_nil w base e size) lo hi A m c news hr h1 h63 hbytes hbase
   exact ⟨v', w', hrun, .inl h2, below_of_grown (World.ownsRow_nil w base e size) hbase h3, own_T (World.ownsRow_nil w base e size) h3⟩
  ·
   obtain ⟨i, hi', hz, hsize, hby⟩ := info_parts hinfo
   rcases Nat.eq_zero_or_pos m with hm | hm
   ·
    subst hm
    have hn : news = [] := List.eq_nil_of_length_eq_zero (by simpa using hr.1)
    subst hn
    have hf : ∀ W : World, (Builtin.firstCells i.size 0 (.slice A 0 c)).run P W = .ok #[] W := by
     intro W
     rcases A with _ | a
     ·
      simp [Builtin.firstCells]
     ·
      exact run_firstCells_some (P := P) W i.size 0 a 0 c [] (by simp) (fun j u hu => by simp at hu)
    have hrun : (Builtin.append_ #[t, t] ty #[.slice (some b) 0 0, .slice A 0 c]).run P w = .ok (.slice (some b) 0 0) w := by
     simp [Builtin.append_, run_underlying ht, sizeOf, typeInfo, hi', Builtin.lenOf, hf, storeCells]
    exact ⟨_, w, hrun, .inr ⟨rfl, rfl, _, rfl⟩, Below.refl _ _, fun q => chgT_new (Below.refl _ _)⟩
   ·
    obtain ⟨bb, off, hA, _, _, hc⟩ := hr.2 hm
    subst hA
    obtain ⟨v', w', hrun, h2, h3⟩ := run_append_arg_grows (P := P) w t ty e i z size bytes ht hi' hz hsize hby hzs hsz b 0 0 [] (by simp) (fun j u hu => by simp at hu) ⟨bb, off, none⟩ m c news hr.1
     (fun j u hu => by rw [add_plain0]; exact hc j u hu) (by omega) h63 hbytes
    refine ⟨v', w', hrun, .inl ?_, ⟨h3.os, h3.tape, h3.output, h3.size, fun k hk => h3.block k (by omega) (by simp)⟩, fun q => ⟨h3.os, h3.tape, h3.output, h3.size, fun k hk _ _ => h3.block k hk (by simp)⟩⟩
    refine ⟨h2.1, ?_⟩
    rcases h2.2 with h | ⟨g, cap, cur, hv, hg, rest⟩
    ·
     exact .inl h
    ·
     exact .inr ⟨g, cap, cur, hv, by omega, rest⟩
theorem wp_appz_litT {P : Program} {w : World} {ops : Array Oper} {rest : List Oper} {o : Oper} {a : Act} {Q : Exit → Act → World → Prop} (hgd : o.guard = none) (s x : Operand) (t : TypeId)
  (ho : o.op = .call { callee := .builtin .append, args := #[s, x], argTypes := #[t, t] })
  (base : Nat) (e : TypeId) (z : Value) (size bytes : Nat) (ht : P.underlying t = some (.slice e)) (hinfo : (P.info? e).map (fun i => (i.zero, i.size, i.bytes)) = some (some z, size, bytes))
  (hzs : z.cells.size = size) (hsz : 0 < size) (v : Value) (n : Nat) (xs : List Value) (hs : a.eval s = v) (hown : OwnZ w base e size v n xs)
  (us : Array Value) (m c g : Nat) (hx : a.eval x = .slice (some ⟨g, 0, none⟩) m c) (hg : g = w.heap.size) (hus : us.size = m * size) (h1 : ∀ u ∈ us.toList, u.oneCell' = true)
  (h63 : n + m ≤ maxLen) (hbytes : (n + m) * bytes ≤ 140737488355328) (hbase : base ≤ w.heap.size)
  (h : ∀ v' w', OwnZ w' base e size v' (n + m) (xs ++ us.toList) → Below base w w' → (∀ q, ChgT q base e w w') → wpList P ops Q rest (a.put o.dst v') w') : wpList P ops Q (o :: rest) a (w.alloc (.cells us e)) := by
 subst hg
 refine wpList_plain hgd fun K hK => ?_
 obtain ⟨v', w', hrun, h2, h3, h4⟩ := run_appzT (P := P) base t o.type e z size bytes ht hinfo hzs hsz v n xs (hown.alloc _) _ _ _ m c us.toList (rd_lit w us e m size hus) h1 h63 hbytes (by simp; omega)
 unfold Oper.wp execOp
 simp only [ho, resolve, invoke, builtin, Sem.run_bind, Sem.run_pure, Result.andThen_ok, List.map_toArray, List.map_cons, List.map_nil, hs, hx, hrun]
 exact hK _ _ (h v' w' h2 (((Below.refl _ _).alloc hbase _).trans h3) (fun q => chgT_after ((Below.refl _ _).alloc (Nat.le_refl _) _) (h4 q)))
theorem fr_T {w w' : World} {lo hi size n c q base : Nat} {E E' : TypeId} {A : Option Addr} {xs : List Value} (h : Fr w lo hi E size A n c xs) (hc : ChgT q base E' w w') (hE : E ≠ E') (hq : q < lo ∨ w.heap.size ≤ q) : Fr w' lo hi E size A n c xs := by
 refine ⟨h.1, fun hn => ?_⟩
 obtain ⟨ho, hh⟩ := h.2 hn
 refine ⟨⟨ho.1, ?_⟩, hh⟩
 rcases ho.2 with h0 | ⟨g, cap, cur, hv, hg, hb, rest⟩
 ·
  exact .inl h0
 ·
  exact .inr ⟨g, cap, cur, hv, hg, (hc.block g (Array.getElem?_eq_some_iff.1 hb).1 (by have := (Array.getElem?_eq_some_iff.1 hb).1; omega) (.inr fun cs z e => by rw [hb] at e; injection e with e; injection e with _ e2 _; exact hE e2)).trans hb, rest⟩
theorem chgT_tr {q base : Nat} {E : TypeId} {w w' w'' : World} (h : ChgT q base E w w') (k : ChgT q base E w' w'') (hk : ∀ p, p < w.heap.size → (p < base ∨ ∀ cs z, w.heap[p]? ≠ some (.cells cs E z)) → p ≠ q → w'.heap[p]? = w.heap[p]?) : ChgT q base E w w'' :=
 ⟨k.os.trans h.os, k.tape.trans h.tape, k.output.trans h.output, Nat.le_trans h.size k.size, fun i hi hq hc => (k.block i (Nat.lt_of_lt_of_le hi h.size) hq (by rw [hk i hi hc hq]; exact hc)).trans (hk i hi hc hq)⟩
theorem ChgT.trans {q base : Nat} {E : TypeId} {w w' w'' : World} (h : ChgT q base E w w') (k : ChgT q base E w' w'') : ChgT q base E w w'' := chgT_tr h k fun p hp hc hq => h.block p hp hq hc
theorem HoldF.keep {q base : Nat} {out : List TFlow} {w w' : World} (h : HoldF q base out w) (hb : Below w.heap.size w w') : HoldF q base out w' := by
 obtain ⟨v, h1, h2⟩ := h
 exact ⟨v, h1.new hb, h2.imp (fun h => own_newer h hb) id⟩
theorem HoldF.chg {q base g : Nat} {out : List TFlow} {w w' : World} (h : HoldF q base out w) (hc : Chg g (g + 1) w w') (hq : q ≠ g) (hg : g < base) : HoldF q base out w' := by
 obtain ⟨v, h1, h2⟩ := h
 refine ⟨v, h1.chg hc (by omega), h2.imp (fun h => ⟨h.1, ?_⟩) id⟩
 rcases h.2 with hn | ⟨r, cap, cur, hv, hr, hh, rest⟩
 ·
  exact .inl hn
 ·
  exact .inr ⟨r, cap, cur, hv, hr, by rw [hc.block r (Array.getElem?_eq_some_iff.1 hh).1 (by omega)]; exact hh, rest⟩
theorem rd_of_hold {w : World} {base n : Nat} {A : Option Addr} {c : Nat} {xs : List Value} (h : OwnZ w base 87 3 (.slice A n c) n xs) : Rd w base w.heap.size 3 A n xs := by
 obtain ⟨A', c', e, hF⟩ := fr_of_ownz h
 injection e with e1 _ e2
 subst e1; subst e2
 exact hF.rd
set_option maxHeartbeats 16000000 in
theorem clo_Nf (ext t0 z y : Int) (x q base : Nat) (out : List TFlow) (w : World) (hx : BoxAt w x 3 #[.int .i64 ext]) (h : HoldF q base out w) (hq : q < base) (hxb : x < base) (hxq : x ≠ q) (hb : base ≤ w.heap.size) (ho : out.length ≤ 10000000) (wy : (Lit.int .i64 y).wf = true) :
  Calls Try.prog 78 #[.int .i64 t0, .agg #[.int .i64 z, .int .i64 y], .pointer (some ⟨x, 0, none⟩), .pointer (some ⟨q, 0, none⟩)] w (fun e w' => e = .returned (.tuple #[]) ∧ HoldF q base (addS ext out ⟨t0, z, y⟩) w' ∧ ChgT q base 87 w w') := by
 have CO := Lib.hid (fun W => impl_OwnersIn y W wy)
 have HJ := Lib.hid (mOwn_len y)
 have HA := Lib.hid (show addS ext out ⟨t0, z, y⟩ = (mOwn y).foldl (addF ext t0) out from rfl)
 rw [HA.out]
 generalize mOwn y = J at CO HJ ⊢
 have HX0 := Lib.hid hx
 have HH0 := Lib.hid h
 clear hx h HA
 go_enter Try.func78, Try.ntmps78
 go_wp2_with fail
 refine (CO.out _).mono ?_
 rintro e w1 ⟨A, c, rfl, hF, hb1⟩
 have HB1 := Lib.hid (below_trans ((Below.refl w.heap.size w).alloc (Nat.le_refl _) (.cells #[.int .i64 z, .int .i64 y] 100)) hb1 (by simp))
 have HF := Lib.hid hF
 have HX1 := Lib.hid (HX0.out.new HB1.out)
 have HH1 := Lib.hid (HH0.out.keep HB1.out)
 have hs1 := HB1.out.size
 clear hF hb1 HX0 HH0
 have HC1 := Lib.hid (chgT_new (q := q) (base := base) (E := 87) (Below.refl w1.heap.size w1))
 go_wp2_with fail
 go_loopg [13] J.length (fun gg i wr => ∃ k : Nat, k ≤ J.length ∧ J.length - k ≤ gg ∧ i = .int .i64 k ∧ Hid (HoldF q base ((J.take k).foldl (addF ext t0) out) wr) ∧ Hid (ChgT q base 87 w1 wr))
 case atStart => exact ⟨0, Nat.zero_le _, by omega, rfl, HH1, HC1⟩
 case round =>
  obtain ⟨k, hk, hg, rfl, HH, HC⟩ := hrel
  have HFk := Lib.hid (fr_T HF.out HC.out (by decide) (.inl (by simp; omega)))
  have HXk := Lib.hid (HC.out.box HX1.out hxq (by decide))
  have hsr := HC.out.size
  have hJ9 : J.length ≤ 9 := HJ.out
  by_cases hlt : k < J.length
  ·
   obtain ⟨b, off, xk, rfl, _, _, hz, hc0⟩ := rd_int HFk.out.rd hlt
   have HT := Lib.hid (fold_take (f := addF ext t0) hz out)
   have HLo := Lib.hid (show ((J.take k).foldl (addF ext t0) out).length ≤ 10000009 by have h1 := addF_folds ext t0 (J.take k) out; have h2 := HJ.out; rw [List.length_take] at h1; omega)
   obtain ⟨O2, HT2⟩ : ∃ O2, Hid ((J.take (k + 1)).foldl (addF ext t0) out = O2) := ⟨_, Lib.hid rfl⟩
   replace HT := Lib.hid (HT2.out.symm.trans HT.out)
   generalize (J.take k).foldl (addF ext t0) out = O at HH HT HLo
   obtain ⟨v, hv1, hv2⟩ := HH.out
   obtain ⟨Ao, co, rfl, _⟩ := fr_of_ownz hv2
   have HQ := Lib.hid hv1
   have HO := Lib.hid hv2
   clear hv1 hv2 HH hz HFk
   have cx := HXk.out.at_ (j := 0) (u := .int .i64 ext) rfl
   have hxl := HXk.out.lt
   have hql := HQ.out.lt
   have cq := HQ.out.at_ (j := 0) (u := .slice Ao O.length co) rfl
   have KF := Lib.hid (box_new wr 87 #[.int .i64 ext, .int .i64 xk, .int .i64 t0])
   by_cases hne : xk = t0
   ·
    subst hne
    have HE := Lib.hid (show O2 = O by rw [HT.out, addF_no (by simp)])
    have gn : (xk != xk) = false := by simp
    go_wp2_with fail
    go_roundg (J.length - (k + 1))
    case measure => omega
    case rel => exact ⟨k + 1, by omega, by omega, by go_num, by rw [HT2.out, HE.out]; exact Lib.hid (HoldF.keep ⟨_, HQ.out, HO.out⟩ ((Below.refl _ _).alloc (Nat.le_refl _) _)), Lib.hid (chgT_trans HC.out ((Below.refl _ _).alloc (Nat.le_refl _) _))⟩
   ·
    have gn : (xk != t0) = true := by simp [hne]
    have CC := Lib.hid (fun (W : World) (hW : Below wr.heap.size wr W) => contains_Flow ⟨ext, xk, t0⟩ O Ao O.length co base wr.heap.size W (by have := HLo.out; omega) ((rd_of_hold HO.out).new hW))
    cases hcn : (O.any fun y => decide ((⟨ext, xk, t0⟩ : TFlow) = y)) with
    | true =>
     rw [hcn] at CC
     have HE := Lib.hid (show O2 = O by rw [HT.out, addF_has hcn])
     clear hcn HT
     go_wp2_with fail
     refine (CC.out _ ((Below.refl _ _).alloc (Nat.le_refl _) _)).mono ?_
     rintro e w2 ⟨rfl, hb2⟩
     have HB2 := Lib.hid (below_trans ((Below.refl wr.heap.size wr).alloc (Nat.le_refl _) (.cells #[.int .i64 ext, .int .i64 xk, .int .i64 t0] 87)) hb2 (by simp))
     clear hb2 cx cq
     go_wp2_with fail
     go_roundg (J.length - (k + 1))
     case measure => omega
     case rel => exact ⟨k + 1, by omega, by omega, by go_num, by rw [HT2.out, HE.out]; exact Lib.hid (HoldF.keep ⟨_, HQ.out, HO.out⟩ HB2.out), Lib.hid (chgT_trans HC.out HB2.out)⟩
    | false =>
     rw [hcn] at CC
     have HE := Lib.hid (show O2 = O ++ [⟨ext, xk, t0⟩] by rw [HT.out, addF_new gn hcn])
     clear hcn HT
     go_wp2_with fail
     refine (CC.out _ ((Below.refl _ _).alloc (Nat.le_refl _) _)).mono ?_
     rintro e w2 ⟨rfl, hb2⟩
     have HB2 := Lib.hid (below_trans ((Below.refl wr.heap.size wr).alloc (Nat.le_refl _) (.cells #[.int .i64 ext, .int .i64 xk, .int .i64 t0] 87)) hb2 (by simp))
     have KF2 := Lib.hid (KF.out.new hb2)
     have HQ2 := Lib.hid (HQ.out.new HB2.out)
     have HO2 := Lib.hid (show OwnZ w2 base 87 3 (.slice Ao O.length co) O.length (cFlow O) from HO.out.imp (fun h => own_newer h HB2.out) id)
     have hs2 := HB2.out.size
     clear hb2 cx cq KF HQ HO
     have f0 := KF2.out.at_ (j := 0) (u := .int .i64 ext) rfl
     have f1 := KF2.out.at_ (j := 1) (u := .int .i64 xk) rfl
     have f2 := KF2.out.at_ (j := 2) (u := .int .i64 t0) rfl
     have cq := HQ2.out.at_ (j := 0) (u := .slice Ao O.length co) rfl
     go_wp2_with (at_builtin; refine wp_appz_litT rfl _ _ _ rfl base 87 (.agg #[.int .i64 0, .int .i64 0, .int .i64 0]) 3 24 Try.underlying24 info_flow rfl (by decide) _ _ _ rfl HO2.out #[.int .i64 ext, .int .i64 xk, .int .i64 t0] 1 1 _ rfl (by simp) rfl (one_flow _ _ _) (by have := HLo.out; unfold maxLen; omega) (by have := HLo.out; omega) (by omega) ?_; intro v1 w3 ho1 hb1 hct; have HO3 := Lib.hid (show OwnZ w3 base 87 3 v1 (O ++ [(⟨ext, xk, t0⟩ : TFlow)]).length (cFlow (O ++ [⟨ext, xk, t0⟩])) from (by rw [cFlow_snoc]; simpa [TFlow.cells] using ho1)); have HQ3 := Lib.hid (HQ2.out.keep (hb1.block q hq)); have HC3 := Lib.hid (hct q); clear ho1 hb1 hct f0 f1 f2 cq; have cq3 := HQ3.out.at_ (j := 0) (u := .slice Ao O.length co) rfl; have fq3 := HQ3.out.free 0; obtain ⟨Av, cv, rfl, _⟩ := fr_of_ownz HO3.out)
     have HQ4 := Lib.hid (box_putq HQ3.out 0 (.slice Av (O ++ [(⟨ext, xk, t0⟩ : TFlow)]).length cv))
     go_roundg (J.length - (k + 1))
     case measure => omega
     case rel =>
      refine ⟨k + 1, by omega, by omega, by go_num, ?_, Lib.hid (chgT_put ((chgT_trans HC.out HB2.out).trans HC3.out) 0 _)⟩
      rw [HT2.out, HE.out]
      exact Lib.hid ⟨.slice Av (O ++ [(⟨ext, xk, t0⟩ : TFlow)]).length cv, by simpa using HQ4.out, by simpa using (ownz_putq (u := .slice Av (O.length + 1) cv) (j := 0) HO3.out hq)⟩
  ·
   obtain rfl : k = J.length := by omega
   rw [List.take_of_length_le (Nat.le_refl _)] at HH
   have HCw := Lib.hid (chgT_after HB1.out HC.out)
   clear HFk HXk
   go_wp2_with fail
   refine bodyPost_end (v := .tuple #[]) (by simp [results, Try.results78, go_sem]) rfl ?_
   exact ⟨rfl, HH.out, HCw.out⟩
theorem mcell_boxN {w : World} {g : Nat} {sv : Value} (h : BoxAt w g 104 #[.slice none 0 0, sv, .int .i64 0, .int .i64 0, .int .i64 0, .int .i64 0, .int .i64 0, .int .i64 0, .int .i64 0, .int .i64 0, .int .i64 0, .int .i64 0, .int .i64 0, .int .i64 0]) : MCell w g none 0 0 sv (List.replicate 6 0) (List.replicate 6 0) := by
 refine ⟨_, h, rfl, fun i hi => ?_⟩
 obtain rfl | rfl | rfl | rfl | rfl | rfl | rfl | rfl | rfl | rfl | rfl | rfl | rfl | rfl : i = 0 ∨ i = 1 ∨ i = 2 ∨ i = 3 ∨ i = 4 ∨ i = 5 ∨ i = 6 ∨ i = 7 ∨ i = 8 ∨ i = 9 ∨ i = 10 ∨ i = 11 ∨ i = 12 ∨ i = 13 := by omega
 all_goals rfl
set_option maxHeartbeats 8000000 in
theorem impl_NeedsFlowsC (l : List TOp) (A : Option Addr) (n c lo hi : Nat) (ext : Int) (w : World) (hn : n ≤ 1048576) (hr : Rd w lo hi 4 A n (cOp l)) (hcap : n ≤ c) (H : Hid (cOpOk l)) (we : (Lit.int .i64 ext).wf = true) :
  Calls Try.prog 24 #[.slice A n c, .int .i64 ext] w (Makes 87 3 (mNeed l ext).length (cFlow (mNeed l ext)) w) := by
 have HR := Lib.hid hr
 clear hr
 have hmf : ∀ (fn : Fn) (first cap : Array Value) (w : World), (Instr.makeFunc fn first cap).run Try.prog w = .ok (.func fn first cap) w := fun _ _ _ _ => rfl
 obtain ⟨Q, HQ⟩ : ∃ Q, Hid (mNeed l ext = Q) := ⟨_, Lib.hid rfl⟩
 rw [HQ.out]
 have KX0 := Lib.hid (show BoxAt ((((w.alloc (.cells #[.int .i64 ext] 3)).alloc (.cells #[] 87)).alloc (.cells #[.slice (some ⟨w.heap.size + 1, 0, none⟩) 0 0] 24)).alloc (.cells #[.slice none 0 0, .nilFunc, .int .i64 0, .int .i64 0, .int .i64 0, .int .i64 0, .int .i64 0, .int .i64 0, .int .i64 0, .int .i64 0, .int .i64 0, .int .i64 0, .int .i64 0, .int .i64 0] 104)) w.heap.size 3 #[.int .i64 ext] from (((box_new w 3 #[.int .i64 ext]).alloc_ _).alloc_ _).alloc_ _)
 have KQ0 := Lib.hid (show BoxAt ((((w.alloc (.cells #[.int .i64 ext] 3)).alloc (.cells #[] 87)).alloc (.cells #[.slice (some ⟨w.heap.size + 1, 0, none⟩) 0 0] 24)).alloc (.cells #[.slice none 0 0, .nilFunc, .int .i64 0, .int .i64 0, .int .i64 0, .int .i64 0, .int .i64 0, .int .i64 0, .int .i64 0, .int .i64 0, .int .i64 0, .int .i64 0, .int .i64 0, .int .i64 0] 104)) (w.heap.size + 1 + 1) 24 #[.slice (some ⟨w.heap.size + 1, 0, none⟩) 0 0] from BoxAt.alloc_ (by simpa using box_new ((w.alloc (.cells #[.int .i64 ext] 3)).alloc (.cells #[] 87)) 24 #[.slice (some ⟨w.heap.size + 1, 0, none⟩) 0 0]) _)
 have KG0 := Lib.hid (show BoxAt ((((w.alloc (.cells #[.int .i64 ext] 3)).alloc (.cells #[] 87)).alloc (.cells #[.slice (some ⟨w.heap.size + 1, 0, none⟩) 0 0] 24)).alloc (.cells #[.slice none 0 0, .nilFunc, .int .i64 0, .int .i64 0, .int .i64 0, .int .i64 0, .int .i64 0, .int .i64 0, .int .i64 0, .int .i64 0, .int .i64 0, .int .i64 0, .int .i64 0, .int .i64 0] 104)) (w.heap.size + 1 + 1 + 1) 104 #[.slice none 0 0, .nilFunc, .int .i64 0, .int .i64 0, .int .i64 0, .int .i64 0, .int .i64 0, .int .i64 0, .int .i64 0, .int .i64 0, .int .i64 0, .int .i64 0, .int .i64 0, .int .i64 0] by simpa using box_new (((w.alloc (.cells #[.int .i64 ext] 3)).alloc (.cells #[] 87)).alloc (.cells #[.slice (some ⟨w.heap.size + 1, 0, none⟩) 0 0] 24)) 104 #[.slice none 0 0, .nilFunc, .int .i64 0, .int .i64 0, .int .i64 0, .int .i64 0, .int .i64 0, .int .i64 0, .int .i64 0, .int .i64 0, .int .i64 0, .int .i64 0, .int .i64 0, .int .i64 0])
 have HB0 := Lib.hid (show Below w.heap.size w ((((w.alloc (.cells #[.int .i64 ext] 3)).alloc (.cells #[] 87)).alloc (.cells #[.slice (some ⟨w.heap.size + 1, 0, none⟩) 0 0] 24)).alloc (.cells #[.slice none 0 0, .nilFunc, .int .i64 0, .int .i64 0, .int .i64 0, .int .i64 0, .int .i64 0, .int .i64 0, .int .i64 0, .int .i64 0, .int .i64 0, .int .i64 0, .int .i64 0, .int .i64 0] 104)) from ((((Below.refl w.heap.size w).alloc (Nat.le_refl _) _).alloc (by simp) _).alloc (by simp <;> omega) _).alloc (by simp <;> omega) _)
 have HS0 : ((((w.alloc (.cells #[.int .i64 ext] 3)).alloc (.cells #[] 87)).alloc (.cells #[.slice (some ⟨w.heap.size + 1, 0, none⟩) 0 0] 24)).alloc (.cells #[.slice none 0 0, .nilFunc, .int .i64 0, .int .i64 0, .int .i64 0, .int .i64 0, .int .i64 0, .int .i64 0, .int .i64 0, .int .i64 0, .int .i64 0, .int .i64 0, .int .i64 0, .int .i64 0] 104)).heap.size = w.heap.size + 4 := by simp
 go_enter Try.func24, Try.ntmps24
 go_wp2_with (refine wpList_store_row rfl 104 _ _ rfl (w.heap.size + 1 + 1 + 1) #[.slice none 0 0, (.func (.func 78) #[] #[.pointer (some ⟨w.heap.size, 0, none⟩), .pointer (some ⟨w.heap.size + 1 + 1, 0, none⟩)]), .int .i64 0, .int .i64 0, .int .i64 0, .int .i64 0, .int .i64 0, .int .i64 0, .int .i64 0, .int .i64 0, .int .i64 0, .int .i64 0, .int .i64 0, .int .i64 0] rfl rfl 104 _ KG0.out (by kernel_rfl) (by kernel_rfl) (by kernel_rfl) ?_; have KG1 := Lib.hid (box_row (cs := #[.slice none 0 0, (.func (.func 78) #[] #[.pointer (some ⟨w.heap.size, 0, none⟩), .pointer (some ⟨w.heap.size + 1 + 1, 0, none⟩)]), .int .i64 0, .int .i64 0, .int .i64 0, .int .i64 0, .int .i64 0, .int .i64 0, .int .i64 0, .int .i64 0, .int .i64 0, .int .i64 0, .int .i64 0, .int .i64 0]) KG0.out); have HB1 := Lib.hid (below_setRow HB0.out (show w.heap.size ≤ w.heap.size + 1 + 1 + 1 by omega) #[.slice none 0 0, (.func (.func 78) #[] #[.pointer (some ⟨w.heap.size, 0, none⟩), .pointer (some ⟨w.heap.size + 1 + 1, 0, none⟩)]), .int .i64 0, .int .i64 0, .int .i64 0, .int .i64 0, .int .i64 0, .int .i64 0, .int .i64 0, .int .i64 0, .int .i64 0, .int .i64 0, .int .i64 0, .int .i64 0]); have KX1 := Lib.hid (box_far (cs := #[.slice none 0 0, (.func (.func 78) #[] #[.pointer (some ⟨w.heap.size, 0, none⟩), .pointer (some ⟨w.heap.size + 1 + 1, 0, none⟩)]), .int .i64 0, .int .i64 0, .int .i64 0, .int .i64 0, .int .i64 0, .int .i64 0, .int .i64 0, .int .i64 0, .int .i64 0, .int .i64 0, .int .i64 0, .int .i64 0]) (g := w.heap.size + 1 + 1 + 1) KX0.out (by omega)); have KQ1 := Lib.hid (box_far (cs := #[.slice none 0 0, (.func (.func 78) #[] #[.pointer (some ⟨w.heap.size, 0, none⟩), .pointer (some ⟨w.heap.size + 1 + 1, 0, none⟩)]), .int .i64 0, .int .i64 0, .int .i64 0, .int .i64 0, .int .i64 0, .int .i64 0, .int .i64 0, .int .i64 0, .int .i64 0, .int .i64 0, .int .i64 0, .int .i64 0]) (g := w.heap.size + 1 + 1 + 1) KQ0.out (by omega)); have hs1 : w.heap.size + 4 ≤ (World.setRow ((((w.alloc (.cells #[.int .i64 ext] 3)).alloc (.cells #[] 87)).alloc (.cells #[.slice (some ⟨w.heap.size + 1, 0, none⟩) 0 0] 24)).alloc (.cells #[.slice none 0 0, .nilFunc, .int .i64 0, .int .i64 0, .int .i64 0, .int .i64 0, .int .i64 0, .int .i64 0, .int .i64 0, .int .i64 0, .int .i64 0, .int .i64 0, .int .i64 0, .int .i64 0] 104)) (w.heap.size + 1 + 1 + 1) #[.slice none 0 0, (.func (.func 78) #[] #[.pointer (some ⟨w.heap.size, 0, none⟩), .pointer (some ⟨w.heap.size + 1 + 1, 0, none⟩)]), .int .i64 0, .int .i64 0, .int .i64 0, .int .i64 0, .int .i64 0, .int .i64 0, .int .i64 0, .int .i64 0, .int .i64 0, .int .i64 0, .int .i64 0, .int .i64 0]).heap.size := (by rw [show (World.setRow ((((w.alloc (.cells #[.int .i64 ext] 3)).alloc (.cells #[] 87)).alloc (.cells #[.slice (some ⟨w.heap.size + 1, 0, none⟩) 0 0] 24)).alloc (.cells #[.slice none 0 0, .nilFunc, .int .i64 0, .int .i64 0, .int .i64 0, .int .i64 0, .int .i64 0, .int .i64 0, .int .i64 0, .int .i64 0, .int .i64 0, .int .i64 0, .int .i64 0, .int .i64 0] 104)) (w.heap.size + 1 + 1 + 1) #[.slice none 0 0, (.func (.func 78) #[] #[.pointer (some ⟨w.heap.size, 0, none⟩), .pointer (some ⟨w.heap.size + 1 + 1, 0, none⟩)]), .int .i64 0, .int .i64 0, .int .i64 0, .int .i64 0, .int .i64 0, .int .i64 0, .int .i64 0, .int .i64 0, .int .i64 0, .int .i64 0, .int .i64 0, .int .i64 0]).heap.size = ((((w.alloc (.cells #[.int .i64 ext] 3)).alloc (.cells #[] 87)).alloc (.cells #[.slice (some ⟨w.heap.size + 1, 0, none⟩) 0 0] 24)).alloc (.cells #[.slice none 0 0, .nilFunc, .int .i64 0, .int .i64 0, .int .i64 0, .int .i64 0, .int .i64 0, .int .i64 0, .int .i64 0, .int .i64 0, .int .i64 0, .int .i64 0, .int .i64 0, .int .i64 0] 104)).heap.size by simp, HS0]; omega); clear KG0 HB0 KX0 KQ0 HS0; generalize World.setRow ((((w.alloc (.cells #[.int .i64 ext] 3)).alloc (.cells #[] 87)).alloc (.cells #[.slice (some ⟨w.heap.size + 1, 0, none⟩) 0 0] 24)).alloc (.cells #[.slice none 0 0, .nilFunc, .int .i64 0, .int .i64 0, .int .i64 0, .int .i64 0, .int .i64 0, .int .i64 0, .int .i64 0, .int .i64 0, .int .i64 0, .int .i64 0, .int .i64 0, .int .i64 0] 104)) (w.heap.size + 1 + 1 + 1) #[.slice none 0 0, (.func (.func 78) #[] #[.pointer (some ⟨w.heap.size, 0, none⟩), .pointer (some ⟨w.heap.size + 1 + 1, 0, none⟩)]), .int .i64 0, .int .i64 0, .int .i64 0, .int .i64 0, .int .i64 0, .int .i64 0, .int .i64 0, .int .i64 0, .int .i64 0, .int .i64 0, .int .i64 0, .int .i64 0] = w1 at KG1 HB1 KX1 KQ1 hs1 ⊢)
 have hM := mcell_boxN KG1.out
 have hH : HoldF (w.heap.size + 1 + 1) (w.heap.size + 4) (mNd ext []) w1 := ⟨_, KQ1.out, .inr ⟨rfl, rfl, _, rfl⟩⟩
 refine (mc_Run_Nf l A n c 0 w.heap.size [] none 0 0 0 0 (w.heap.size + 1 + 1 + 1) (w.heap.size + 1 + 1) w.heap.size (w.heap.size + 4) 87 #[.pointer (some ⟨w.heap.size, 0, none⟩), .pointer (some ⟨w.heap.size + 1 + 1, 0, none⟩)]
  (fun s W => HoldF (w.heap.size + 1 + 1) (w.heap.size + 4) (mNd ext s) W ∧ BoxAt W w.heap.size 3 #[.int .i64 ext] ∧ w.heap.size + 4 ≤ W.heap.size) w1 (by decide) (by simpa [i64s] using (Rd.empty (w := w1) (lo := 0) (hi := 0) (size := 1) (A := none))) (Lib.hid (fun z hz => by cases hz)) (Nat.zero_le _) hn ((HR.out.old (by decide)).below HB1.out (Nat.le_refl _)) (Nat.le_refl _) hcap H (by omega) (by omega) (by omega) (by omega) (by omega) (by decide) (by decide) hM ⟨hH, KX1.out, hs1⟩
  (fun s W W' h hc => ⟨h.1.chg hc (by omega) (by omega), h.2.1.chg hc (by omega), Nat.le_trans h.2.2 hc.size⟩)
  (fun s W t0 z y h hsl _ _ hy _ => (clo_Nf ext t0 z y w.heap.size (w.heap.size + 1 + 1) (w.heap.size + 4) (mNd ext s) W h.2.1 h.1 (by omega) (by omega) (by omega) h.2.2 (Nat.le_trans (mNd_len ext s) (by omega)) (lab_wf hy)).mono (fun e W' hh => by
   obtain ⟨rfl, h1, h2⟩ := hh
   exact ⟨rfl, ⟨by rw [mNd_snoc]; exact h1, h2.box h.2.1 (by omega) (by decide), Nat.le_trans h.2.2 h2.size⟩, h2⟩))).mono ?_
 rintro e w2 ⟨rfl, -, ⟨hh2, -, -⟩, hb2⟩
 have HB2 := Lib.hid (HB1.out.trans hb2)
 have HQ2 : Hid (HoldF (w.heap.size + 1 + 1) (w.heap.size + 4) Q w2) := Lib.hid (by
  rw [← HQ.out]
  unfold mNeed
  cases hA : mAreOps l with
  | false => rw [hA] at hh2; exact hh2
  | true => rw [hA] at hh2; exact hh2)
 clear hM hH hb2 hh2 KG1 HB1 KX1 KQ1
 obtain ⟨v, hv1, hv2⟩ := HQ2.out
 obtain ⟨A2, c2, rfl, hF⟩ := fr_of_ownz hv2
 have HF := Lib.hid (hF.mono (show w.heap.size ≤ w.heap.size + 4 by omega) (Nat.le_refl _))
 have k0 := hv1.at_ (j := 0) (u := .slice A2 Q.length c2) rfl
 clear hv1 hv2 hF HQ2
 go_wp2_with fail
 go_ret
 exact ⟨_, _, rfl, HF.out, HB2.out⟩
end Go.Proofs.Ytcankpiidjhhpaa
