/- mayNow, mayAt and l34May. No condition of its own. -/
import Derived.Test.YtodlahmnjadgcaaGreatDBrowser
import Derived.Test.YtodlahmnjadgcaaGreatMayDo
namespace Go.Proofs.YtodlahmnjadgcaaGreat
open Go Go.ChangeShapes Go.WideShapes Go.ChangeAt Go.RowKit Go.Lib
set_option linter.unusedVariables false
set_option linter.unusedSimpArgs false
set_option maxRecDepth 100000
set_option maxHeartbeats 4000000
def mMayN (m : MBrowser) (ext : Int) (s : TSite) (kind : Int) : Bool := mAllowed m.l3 ext s kind m.p7 false && !mDenied m.l4 ext s kind
theorem may_call {f : Nat} {P : Program} {x : DBrowser} {lo hi : Nat} {w : World} {ext kind : Int} {s : TSite}
    (C : ∀ W : World, Rd W lo hi 7 x.A3 x.n3 (cGrant x.l3) → Rd W lo hi 4 x.A4 x.n4 (cLimit x.l4) → Calls P f #[.slice x.A3 x.n3 x.c3, .slice x.A4 x.n4 x.c4, .int .i64 ext, vSite s, .int .i64 kind, .int .i64 x.p7, .bool false] W (Says (.bool (mAllowed x.l3 ext s kind x.p7 false && !mDenied x.l4 ext s kind)) W))
    (hr : x.rd w lo hi) {W : World} (hb : Below w.heap.size w W) : Calls P f #[.slice x.A3 x.n3 x.c3, .slice x.A4 x.n4 x.c4, .int .i64 ext, vSite s, .int .i64 kind, .int .i64 x.p7, .bool false] W (Says (.bool (mMayN x.dat ext s kind)) W) :=
  C W (hr.2.2.1.2.new hb) (hr.2.2.2.1.2.new hb)
end Go.Proofs.YtodlahmnjadgcaaGreat
