/- What FnGrants asks, in plain words. No condition of its own. -/
import Derived.Test.YtlnmgfbfpjfddaaAllow
import Derived.Test.YtlnmgfbfpjfddaaExpire
import Derived.Test.YtlnmgfbfpjfddaaGrantsOf
import Derived.Test.YtlnmgfbfpjfddaaAddGrant
namespace Go.Proofs.Ytlnmgfbfpjfddaa
open Go Go.ChangeShapes Go.WideShapes Go.ChangeAt Go.RowKit Go.Lib
set_option linter.unusedVariables false
set_option linter.unusedSimpArgs false
set_option maxRecDepth 100000
theorem allowed_of (l : List TGrant) (ext : Int) (s : TSite) (kind tick : Int) (c : Bool) : mAllowed (l.filter fun x => x.f0 == ext) ext s kind tick c = mAllowed l ext s kind tick c := by
  unfold mAllowed
  rw [List.any_filter]
  congr 1
  funext g
  unfold mCovers
  cases g.f0 == ext <;> simp
theorem allowed_click (l : List TGrant) (ext : Int) (s : TSite) (kind tick : Int) (h : mAllowed l ext s kind tick false = true) : mAllowed l ext s kind tick true = true := by
  unfold mAllowed at h ⊢
  rw [List.any_eq_true] at h ⊢
  obtain ⟨g, hg, h⟩ := h
  refine ⟨g, hg, ?_⟩
  unfold mCovers at h ⊢
  simp only [Bool.and_eq_true, Bool.false_or, Bool.true_or, and_true] at h ⊢
  exact h.1
theorem allowed_exp (l : List TGrant) (ext : Int) (s : TSite) (kind tick : Int) (c : Bool) : mAllowed (l.filter fun x => mIsGrant x && decide (tick ≤ x.f5)) ext s kind tick c = mAllowed l ext s kind tick c := by
  unfold mAllowed
  rw [List.any_filter]
  congr 1
  funext g
  unfold mCovers inR
  by_cases h2 : tick ≤ g.f5 <;> cases mIsGrant g <;> simp [h2]
theorem allowed_take (l : List TGrant) (k : Nat) (g : TGrant) (h : l[k]? = some g) (ext : Int) (s : TSite) (kind tick : Int) (c : Bool) : mAllowed (l.take (k + 1)) ext s kind tick c = (mAllowed (l.take k) ext s kind tick c || mCovers g ext s kind tick c) := by
  unfold mAllowed
  rw [List.take_add_one, h, List.any_append]
  simp

theorem add_valid {l : List TGrant} {g : TGrant} (h : mAddOk l g = true) : mIsGrant g = true := by
  unfold mAddOk at h
  simp only [Bool.and_eq_true] at h
  exact h.1.1
theorem cov_eq (g : TGrant) (ext : Int) (s : TSite) (kind tick : Int) (clicked v : Bool) (h : mCovers g ext s kind tick clicked = v) (W : World) : Calls Try.prog 24 #[vGrant g, .int .i64 ext, vSite s, .int .i64 kind, .int .i64 tick, .bool clicked] W (Says (.bool v) W) := h ▸ impl_Covers g ext s kind tick clicked W
theorem isg_eq (g : TGrant) (v : Bool) (h : mIsGrant g = v) (W : World) : Calls Try.prog 31 #[vGrant g] W (Says (.bool v) W) := h ▸ impl_IsGrant g W
theorem all_eq (l : List TGrant) (A : Option Addr) (n c lo hi : Nat) (ext : Int) (s : TSite) (kind tick : Int) (clicked v : Bool) (h : mAllowed l ext s kind tick clicked = v) (w : World) (hn : n ≤ 1048576) (hr : Rd w lo hi 7 A n (cGrant l)) (H : Hid (cGrantOk l)) :
    Calls Try.prog 25 #[.slice A n c, .int .i64 ext, vSite s, .int .i64 kind, .int .i64 tick, .bool clicked] w (Says (.bool v) w) := h ▸ impl_IsAllowed l A n c lo hi ext s kind tick clicked w hn hr H
theorem filter_ok {l : List TGrant} (p : TGrant → Bool) (H : Hid (cGrantOk l)) : Hid (cGrantOk (l.filter p)) := Lib.hid fun x hx => H.out x (List.mem_filter.1 hx).1
theorem filter_le {l : List TGrant} (p : TGrant → Bool) {m : Nat} (h : l.length ≤ m) : (l.filter p).length ≤ m := Nat.le_trans (List.length_filter_le _ _) h
end Go.Proofs.Ytlnmgfbfpjfddaa
