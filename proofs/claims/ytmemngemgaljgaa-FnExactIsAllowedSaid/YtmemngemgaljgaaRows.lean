/-
  No cell of these rows narrows 'for every input' (looked for: loops, veiled, ifaces, maps, wideKeys, modest, calm, conditions, laid).
  DERIVED. THE GIVEN ROWS OF THIS SEAT. 11 by the template 'for every input the law returns true; each argument reads behind the call as it read before'; 0 by the template 'total and deterministic' (their statements: YtmemngemgaljgaaTotals.lean).
  GIVEN WITH THE SEED: the statements are not yours to turn. If you find one false, say at which input.
  Laid BY PROGRAM, IN A SANDBOX (cutbox-rows.mjs): the forced cells as the released guide's own fill.sh prints them over the translation 533967551991b30c… (all of the seat's roots in one cut). By AI agents, Wed Nov 11 2026. No macro, syntax, notation, axiom, sorry.
-/
import Derived.Test.YtmemngemgaljgaaChecked
import GoSem.Claim
import GoSem.ClaimJoined
import GoSem.ClaimMapViews
import Derived.JoinedTies
import Derived.KernelRfl
namespace Go.Proofs.Ytmemngemgaljgaa
/- THE CELL 'sum', in the pinned program and in every row, IS THE sha256 OF THE DUMP (.gsa) THAT YtmemngemgaljgaaProg.lean LOADS. Nothing in Lean hashes anything: it is a label: what it is worth is what the hold of that sum in a sandbox is worth. -/
noncomputable def Try.pinned : Pinned := { name := "ytmemngemgaljgaa", sum := "533967551991b30cd21e12f0f3948c667556004eb191ef9267c9383a3b2b2d0b", checked := Try.checked }
namespace Rows
def none {H : Type} : Left H := { results := [], args := [] }

/-- 'laws.FnExactIsSite': WHATEVER THE INPUT: true; the input reads as it did. -/
def fnExactIsSiteSpec : ChangeSpec := { name := "fnExactIsSite", fn := fun _ => fun
  | [d] => { results := [.lit (.bool true)], args := [d] }
  | _ => none }
def fnExactIsSiteRow : OpenClaim := { program := "ytmemngemgaljgaa", sum := "533967551991b30cd21e12f0f3948c667556004eb191ef9267c9383a3b2b2d0b", func := "loop.example/g03001/laws.FnExactIsSite", spec := "fnExactIsSite", apart := false }
def FnExactIsSiteSaid : Prop := fnExactIsSiteRow.holds Try.pinned (OpenSpec.ofChange fnExactIsSiteSpec)

/-- ITS FALSE NEIGHBOUR: 'it returns false'. Refute it at one input. -/
def fnExactIsSiteWrong : ChangeSpec := { name := "fnExactIsSite", fn := fun _ => fun
  | [d] => { results := [.lit (.bool false)], args := [d] }
  | _ => none }
def FnExactIsSiteWrongFalsely : Prop := fnExactIsSiteRow.holds Try.pinned (OpenSpec.ofChange fnExactIsSiteWrong)

/-- 'laws.FnExactIsPattern': WHATEVER THE INPUT: true; the input reads as it did. -/
def fnExactIsPatternSpec : ChangeSpec := { name := "fnExactIsPattern", fn := fun _ => fun
  | [d] => { results := [.lit (.bool true)], args := [d] }
  | _ => none }
def fnExactIsPatternRow : OpenClaim := { program := "ytmemngemgaljgaa", sum := "533967551991b30cd21e12f0f3948c667556004eb191ef9267c9383a3b2b2d0b", func := "loop.example/g03001/laws.FnExactIsPattern", spec := "fnExactIsPattern", apart := false }
def FnExactIsPatternSaid : Prop := fnExactIsPatternRow.holds Try.pinned (OpenSpec.ofChange fnExactIsPatternSpec)

/-- ITS FALSE NEIGHBOUR: 'it returns false'. Refute it at one input. -/
def fnExactIsPatternWrong : ChangeSpec := { name := "fnExactIsPattern", fn := fun _ => fun
  | [d] => { results := [.lit (.bool false)], args := [d] }
  | _ => none }
def FnExactIsPatternWrongFalsely : Prop := fnExactIsPatternRow.holds Try.pinned (OpenSpec.ofChange fnExactIsPatternWrong)

/-- 'laws.FnExactMatchSite': WHATEVER THE INPUT: true; the input reads as it did. -/
def fnExactMatchSiteSpec : ChangeSpec := { name := "fnExactMatchSite", fn := fun _ => fun
  | [d1, d2] => { results := [.lit (.bool true)], args := [d1, d2] }
  | _ => none }
def fnExactMatchSiteRow : OpenClaim := { program := "ytmemngemgaljgaa", sum := "533967551991b30cd21e12f0f3948c667556004eb191ef9267c9383a3b2b2d0b", func := "loop.example/g03001/laws.FnExactMatchSite", spec := "fnExactMatchSite", apart := false }
def FnExactMatchSiteSaid : Prop := fnExactMatchSiteRow.holds Try.pinned (OpenSpec.ofChange fnExactMatchSiteSpec)

/-- ITS FALSE NEIGHBOUR: 'it returns false'. Refute it at one input. -/
def fnExactMatchSiteWrong : ChangeSpec := { name := "fnExactMatchSite", fn := fun _ => fun
  | [d1, d2] => { results := [.lit (.bool false)], args := [d1, d2] }
  | _ => none }
def FnExactMatchSiteWrongFalsely : Prop := fnExactMatchSiteRow.holds Try.pinned (OpenSpec.ofChange fnExactMatchSiteWrong)

/-- 'laws.FnExactIsNarrower': WHATEVER THE INPUT: true; the input reads as it did. -/
def fnExactIsNarrowerSpec : ChangeSpec := { name := "fnExactIsNarrower", fn := fun _ => fun
  | [d1, d2] => { results := [.lit (.bool true)], args := [d1, d2] }
  | _ => none }
def fnExactIsNarrowerRow : OpenClaim := { program := "ytmemngemgaljgaa", sum := "533967551991b30cd21e12f0f3948c667556004eb191ef9267c9383a3b2b2d0b", func := "loop.example/g03001/laws.FnExactIsNarrower", spec := "fnExactIsNarrower", apart := false }
def FnExactIsNarrowerSaid : Prop := fnExactIsNarrowerRow.holds Try.pinned (OpenSpec.ofChange fnExactIsNarrowerSpec)

/-- ITS FALSE NEIGHBOUR: 'it returns false'. Refute it at one input. -/
def fnExactIsNarrowerWrong : ChangeSpec := { name := "fnExactIsNarrower", fn := fun _ => fun
  | [d1, d2] => { results := [.lit (.bool false)], args := [d1, d2] }
  | _ => none }
def FnExactIsNarrowerWrongFalsely : Prop := fnExactIsNarrowerRow.holds Try.pinned (OpenSpec.ofChange fnExactIsNarrowerWrong)

/-- 'laws.FnExactMeetPatterns': WHATEVER THE INPUT: true; the input reads as it did. -/
def fnExactMeetPatternsSpec : ChangeSpec := { name := "fnExactMeetPatterns", fn := fun _ => fun
  | [d1, d2] => { results := [.lit (.bool true)], args := [d1, d2] }
  | _ => none }
def fnExactMeetPatternsRow : OpenClaim := { program := "ytmemngemgaljgaa", sum := "533967551991b30cd21e12f0f3948c667556004eb191ef9267c9383a3b2b2d0b", func := "loop.example/g03001/laws.FnExactMeetPatterns", spec := "fnExactMeetPatterns", apart := false }
def FnExactMeetPatternsSaid : Prop := fnExactMeetPatternsRow.holds Try.pinned (OpenSpec.ofChange fnExactMeetPatternsSpec)

/-- ITS FALSE NEIGHBOUR: 'it returns false'. Refute it at one input. -/
def fnExactMeetPatternsWrong : ChangeSpec := { name := "fnExactMeetPatterns", fn := fun _ => fun
  | [d1, d2] => { results := [.lit (.bool false)], args := [d1, d2] }
  | _ => none }
def FnExactMeetPatternsWrongFalsely : Prop := fnExactMeetPatternsRow.holds Try.pinned (OpenSpec.ofChange fnExactMeetPatternsWrong)

/-- 'laws.FnExactIsGrant': WHATEVER THE INPUT: true; the input reads as it did. -/
def fnExactIsGrantSpec : ChangeSpec := { name := "fnExactIsGrant", fn := fun _ => fun
  | [d] => { results := [.lit (.bool true)], args := [d] }
  | _ => none }
def fnExactIsGrantRow : OpenClaim := { program := "ytmemngemgaljgaa", sum := "533967551991b30cd21e12f0f3948c667556004eb191ef9267c9383a3b2b2d0b", func := "loop.example/g03001/laws.FnExactIsGrant", spec := "fnExactIsGrant", apart := false }
def FnExactIsGrantSaid : Prop := fnExactIsGrantRow.holds Try.pinned (OpenSpec.ofChange fnExactIsGrantSpec)

/-- ITS FALSE NEIGHBOUR: 'it returns false'. Refute it at one input. -/
def fnExactIsGrantWrong : ChangeSpec := { name := "fnExactIsGrant", fn := fun _ => fun
  | [d] => { results := [.lit (.bool false)], args := [d] }
  | _ => none }
def FnExactIsGrantWrongFalsely : Prop := fnExactIsGrantRow.holds Try.pinned (OpenSpec.ofChange fnExactIsGrantWrong)

/-- 'laws.FnExactCovers': WHATEVER THE INPUT: true; the input reads as it did. -/
def fnExactCoversSpec : ChangeSpec := { name := "fnExactCovers", fn := fun _ => fun
  | [d1, d2, d3, d4, d5, d6] => { results := [.lit (.bool true)], args := [d1, d2, d3, d4, d5, d6] }
  | _ => none }
def fnExactCoversRow : OpenClaim := { program := "ytmemngemgaljgaa", sum := "533967551991b30cd21e12f0f3948c667556004eb191ef9267c9383a3b2b2d0b", func := "loop.example/g03001/laws.FnExactCovers", spec := "fnExactCovers", apart := false }
def FnExactCoversSaid : Prop := fnExactCoversRow.holds Try.pinned (OpenSpec.ofChange fnExactCoversSpec)

/-- ITS FALSE NEIGHBOUR: 'it returns false'. Refute it at one input. -/
def fnExactCoversWrong : ChangeSpec := { name := "fnExactCovers", fn := fun _ => fun
  | [d1, d2, d3, d4, d5, d6] => { results := [.lit (.bool false)], args := [d1, d2, d3, d4, d5, d6] }
  | _ => none }
def FnExactCoversWrongFalsely : Prop := fnExactCoversRow.holds Try.pinned (OpenSpec.ofChange fnExactCoversWrong)

/-- 'laws.FnExactIsAllowed': WHATEVER THE INPUT: true; the input reads as it did. -/
def fnExactIsAllowedSpec : ChangeSpec := { name := "fnExactIsAllowed", fn := fun _ => fun
  | [d1, d2, d3, d4, d5, d6] => { results := [.lit (.bool true)], args := [d1, d2, d3, d4, d5, d6] }
  | _ => none }
def fnExactIsAllowedRow : OpenClaim := { program := "ytmemngemgaljgaa", sum := "533967551991b30cd21e12f0f3948c667556004eb191ef9267c9383a3b2b2d0b", func := "loop.example/g03001/laws.FnExactIsAllowed", spec := "fnExactIsAllowed", unfollowed := true, recurses := true, apart := false }
def FnExactIsAllowedSaid : Prop := fnExactIsAllowedRow.holds Try.pinned (OpenSpec.ofChange fnExactIsAllowedSpec)

/-- ITS FALSE NEIGHBOUR: 'it returns false'. Refute it at one input. -/
def fnExactIsAllowedWrong : ChangeSpec := { name := "fnExactIsAllowed", fn := fun _ => fun
  | [d1, d2, d3, d4, d5, d6] => { results := [.lit (.bool false)], args := [d1, d2, d3, d4, d5, d6] }
  | _ => none }
def FnExactIsAllowedWrongFalsely : Prop := fnExactIsAllowedRow.holds Try.pinned (OpenSpec.ofChange fnExactIsAllowedWrong)

/-- 'laws.FnExactExpireGrants': WHATEVER THE INPUT: true; the input reads as it did. -/
def fnExactExpireGrantsSpec : ChangeSpec := { name := "fnExactExpireGrants", fn := fun _ => fun
  | [d1, d2] => { results := [.lit (.bool true)], args := [d1, d2] }
  | _ => none }
def fnExactExpireGrantsRow : OpenClaim := { program := "ytmemngemgaljgaa", sum := "533967551991b30cd21e12f0f3948c667556004eb191ef9267c9383a3b2b2d0b", func := "loop.example/g03001/laws.FnExactExpireGrants", spec := "fnExactExpireGrants", unfollowed := true, recurses := true, apart := false }
def FnExactExpireGrantsSaid : Prop := fnExactExpireGrantsRow.holds Try.pinned (OpenSpec.ofChange fnExactExpireGrantsSpec)

/-- ITS FALSE NEIGHBOUR: 'it returns false'. Refute it at one input. -/
def fnExactExpireGrantsWrong : ChangeSpec := { name := "fnExactExpireGrants", fn := fun _ => fun
  | [d1, d2] => { results := [.lit (.bool false)], args := [d1, d2] }
  | _ => none }
def FnExactExpireGrantsWrongFalsely : Prop := fnExactExpireGrantsRow.holds Try.pinned (OpenSpec.ofChange fnExactExpireGrantsWrong)

/-- 'laws.FnExactGrantsOf': WHATEVER THE INPUT: true; the input reads as it did. -/
def fnExactGrantsOfSpec : ChangeSpec := { name := "fnExactGrantsOf", fn := fun _ => fun
  | [d1, d2] => { results := [.lit (.bool true)], args := [d1, d2] }
  | _ => none }
def fnExactGrantsOfRow : OpenClaim := { program := "ytmemngemgaljgaa", sum := "533967551991b30cd21e12f0f3948c667556004eb191ef9267c9383a3b2b2d0b", func := "loop.example/g03001/laws.FnExactGrantsOf", spec := "fnExactGrantsOf", unfollowed := true, recurses := true, apart := false }
def FnExactGrantsOfSaid : Prop := fnExactGrantsOfRow.holds Try.pinned (OpenSpec.ofChange fnExactGrantsOfSpec)

/-- ITS FALSE NEIGHBOUR: 'it returns false'. Refute it at one input. -/
def fnExactGrantsOfWrong : ChangeSpec := { name := "fnExactGrantsOf", fn := fun _ => fun
  | [d1, d2] => { results := [.lit (.bool false)], args := [d1, d2] }
  | _ => none }
def FnExactGrantsOfWrongFalsely : Prop := fnExactGrantsOfRow.holds Try.pinned (OpenSpec.ofChange fnExactGrantsOfWrong)

/-- 'laws.FnExactAddGrant': WHATEVER THE INPUT: true; the input reads as it did. -/
def fnExactAddGrantSpec : ChangeSpec := { name := "fnExactAddGrant", fn := fun _ => fun
  | [d1, d2] => { results := [.lit (.bool true)], args := [d1, d2] }
  | _ => none }
def fnExactAddGrantRow : OpenClaim := { program := "ytmemngemgaljgaa", sum := "533967551991b30cd21e12f0f3948c667556004eb191ef9267c9383a3b2b2d0b", func := "loop.example/g03001/laws.FnExactAddGrant", spec := "fnExactAddGrant", apart := false }
def FnExactAddGrantSaid : Prop := fnExactAddGrantRow.holds Try.pinned (OpenSpec.ofChange fnExactAddGrantSpec)

/-- ITS FALSE NEIGHBOUR: 'it returns false'. Refute it at one input. -/
def fnExactAddGrantWrong : ChangeSpec := { name := "fnExactAddGrant", fn := fun _ => fun
  | [d1, d2] => { results := [.lit (.bool false)], args := [d1, d2] }
  | _ => none }
def FnExactAddGrantWrongFalsely : Prop := fnExactAddGrantRow.holds Try.pinned (OpenSpec.ofChange fnExactAddGrantWrong)

/- THE SECOND FORM. 'bulk': how many values and letters a reading holds, each counted each time it is reached (what is shared counts as often as it is met; a slice's spare places count too). A statement '..UptoSaid' is the law's where the arguments, and the package variables that the reading takes, are together of bulk at most 1048576: NARROWER than '..Said'. Prove '..Said' where nothing that the law and all that it calls make is longer than what came in: it says more and counts as full. Else prove '..UptoSaid'. A law counts once. -/
mutual
def uptoBulk {H : Type} : DataW H → Nat
  | .lit (.string bytes) => bytes.length + 1
  | .lit _ => 1
  | .nil => 1
  | .ptr d => uptoBulk d + 1
  | .slice elems spare => uptoBulkAll elems + uptoBulkAll spare + 1
  | .agg parts => uptoBulkAll parts + 1
  | .iface _ d => uptoBulk d + 1
  | .map entries => uptoBulkEntries entries + 1
  | .held _ => 1
def uptoBulkAll {H : Type} : List (DataW H) → Nat
  | [] => 0
  | d :: r => uptoBulk d + uptoBulkAll r
def uptoBulkEntries {H : Type} : List (Lit × DataW H) → Nat
  | [] => 0
  | x :: r => uptoBulkEntry x + uptoBulkEntries r
def uptoBulkEntry {H : Type} : Lit × DataW H → Nat
  | (.string bytes, d) => bytes.length + uptoBulk d + 1
  | (_, d) => uptoBulk d + 1
 end
def uptoSmall : (H : Type) → List (DataW H) → Bool := fun _ ds => decide (uptoBulkAll ds ≤ 1048576)
def OpenSpec.upto (s : _root_.Go.ChangeSpec) : _root_.Go.OpenSpec := { _root_.Go.OpenSpec.ofChange s with cond := some uptoSmall }

/-- 'laws.FnExactIsSite', WHERE WHAT IT READS IS OF BULK AT MOST 1048576: true; the input reads as it did. -/
def fnExactIsSiteUptoRow : OpenClaim := { program := "ytmemngemgaljgaa", sum := "533967551991b30cd21e12f0f3948c667556004eb191ef9267c9383a3b2b2d0b", func := "loop.example/g03001/laws.FnExactIsSite", spec := "fnExactIsSite", apart := false, narrowed := true }
def FnExactIsSiteUptoSaid : Prop := fnExactIsSiteUptoRow.holds Try.pinned (OpenSpec.upto fnExactIsSiteSpec)

/-- 'laws.FnExactIsPattern', WHERE WHAT IT READS IS OF BULK AT MOST 1048576: true; the input reads as it did. -/
def fnExactIsPatternUptoRow : OpenClaim := { program := "ytmemngemgaljgaa", sum := "533967551991b30cd21e12f0f3948c667556004eb191ef9267c9383a3b2b2d0b", func := "loop.example/g03001/laws.FnExactIsPattern", spec := "fnExactIsPattern", apart := false, narrowed := true }
def FnExactIsPatternUptoSaid : Prop := fnExactIsPatternUptoRow.holds Try.pinned (OpenSpec.upto fnExactIsPatternSpec)

/-- 'laws.FnExactMatchSite', WHERE WHAT IT READS IS OF BULK AT MOST 1048576: true; the input reads as it did. -/
def fnExactMatchSiteUptoRow : OpenClaim := { program := "ytmemngemgaljgaa", sum := "533967551991b30cd21e12f0f3948c667556004eb191ef9267c9383a3b2b2d0b", func := "loop.example/g03001/laws.FnExactMatchSite", spec := "fnExactMatchSite", apart := false, narrowed := true }
def FnExactMatchSiteUptoSaid : Prop := fnExactMatchSiteUptoRow.holds Try.pinned (OpenSpec.upto fnExactMatchSiteSpec)

/-- 'laws.FnExactIsNarrower', WHERE WHAT IT READS IS OF BULK AT MOST 1048576: true; the input reads as it did. -/
def fnExactIsNarrowerUptoRow : OpenClaim := { program := "ytmemngemgaljgaa", sum := "533967551991b30cd21e12f0f3948c667556004eb191ef9267c9383a3b2b2d0b", func := "loop.example/g03001/laws.FnExactIsNarrower", spec := "fnExactIsNarrower", apart := false, narrowed := true }
def FnExactIsNarrowerUptoSaid : Prop := fnExactIsNarrowerUptoRow.holds Try.pinned (OpenSpec.upto fnExactIsNarrowerSpec)

/-- 'laws.FnExactMeetPatterns', WHERE WHAT IT READS IS OF BULK AT MOST 1048576: true; the input reads as it did. -/
def fnExactMeetPatternsUptoRow : OpenClaim := { program := "ytmemngemgaljgaa", sum := "533967551991b30cd21e12f0f3948c667556004eb191ef9267c9383a3b2b2d0b", func := "loop.example/g03001/laws.FnExactMeetPatterns", spec := "fnExactMeetPatterns", apart := false, narrowed := true }
def FnExactMeetPatternsUptoSaid : Prop := fnExactMeetPatternsUptoRow.holds Try.pinned (OpenSpec.upto fnExactMeetPatternsSpec)

/-- 'laws.FnExactIsGrant', WHERE WHAT IT READS IS OF BULK AT MOST 1048576: true; the input reads as it did. -/
def fnExactIsGrantUptoRow : OpenClaim := { program := "ytmemngemgaljgaa", sum := "533967551991b30cd21e12f0f3948c667556004eb191ef9267c9383a3b2b2d0b", func := "loop.example/g03001/laws.FnExactIsGrant", spec := "fnExactIsGrant", apart := false, narrowed := true }
def FnExactIsGrantUptoSaid : Prop := fnExactIsGrantUptoRow.holds Try.pinned (OpenSpec.upto fnExactIsGrantSpec)

/-- 'laws.FnExactCovers', WHERE WHAT IT READS IS OF BULK AT MOST 1048576: true; the input reads as it did. -/
def fnExactCoversUptoRow : OpenClaim := { program := "ytmemngemgaljgaa", sum := "533967551991b30cd21e12f0f3948c667556004eb191ef9267c9383a3b2b2d0b", func := "loop.example/g03001/laws.FnExactCovers", spec := "fnExactCovers", apart := false, narrowed := true }
def FnExactCoversUptoSaid : Prop := fnExactCoversUptoRow.holds Try.pinned (OpenSpec.upto fnExactCoversSpec)

/-- 'laws.FnExactIsAllowed', WHERE WHAT IT READS IS OF BULK AT MOST 1048576: true; the input reads as it did. -/
def fnExactIsAllowedUptoRow : OpenClaim := { program := "ytmemngemgaljgaa", sum := "533967551991b30cd21e12f0f3948c667556004eb191ef9267c9383a3b2b2d0b", func := "loop.example/g03001/laws.FnExactIsAllowed", spec := "fnExactIsAllowed", unfollowed := true, recurses := true, apart := false, narrowed := true }
def FnExactIsAllowedUptoSaid : Prop := fnExactIsAllowedUptoRow.holds Try.pinned (OpenSpec.upto fnExactIsAllowedSpec)

/-- 'laws.FnExactExpireGrants', WHERE WHAT IT READS IS OF BULK AT MOST 1048576: true; the input reads as it did. -/
def fnExactExpireGrantsUptoRow : OpenClaim := { program := "ytmemngemgaljgaa", sum := "533967551991b30cd21e12f0f3948c667556004eb191ef9267c9383a3b2b2d0b", func := "loop.example/g03001/laws.FnExactExpireGrants", spec := "fnExactExpireGrants", unfollowed := true, recurses := true, apart := false, narrowed := true }
def FnExactExpireGrantsUptoSaid : Prop := fnExactExpireGrantsUptoRow.holds Try.pinned (OpenSpec.upto fnExactExpireGrantsSpec)

/-- 'laws.FnExactGrantsOf', WHERE WHAT IT READS IS OF BULK AT MOST 1048576: true; the input reads as it did. -/
def fnExactGrantsOfUptoRow : OpenClaim := { program := "ytmemngemgaljgaa", sum := "533967551991b30cd21e12f0f3948c667556004eb191ef9267c9383a3b2b2d0b", func := "loop.example/g03001/laws.FnExactGrantsOf", spec := "fnExactGrantsOf", unfollowed := true, recurses := true, apart := false, narrowed := true }
def FnExactGrantsOfUptoSaid : Prop := fnExactGrantsOfUptoRow.holds Try.pinned (OpenSpec.upto fnExactGrantsOfSpec)

/-- 'laws.FnExactAddGrant', WHERE WHAT IT READS IS OF BULK AT MOST 1048576: true; the input reads as it did. -/
def fnExactAddGrantUptoRow : OpenClaim := { program := "ytmemngemgaljgaa", sum := "533967551991b30cd21e12f0f3948c667556004eb191ef9267c9383a3b2b2d0b", func := "loop.example/g03001/laws.FnExactAddGrant", spec := "fnExactAddGrant", apart := false, narrowed := true }
def FnExactAddGrantUptoSaid : Prop := fnExactAddGrantUptoRow.holds Try.pinned (OpenSpec.upto fnExactAddGrantSpec)

end Rows
end Go.Proofs.Ytmemngemgaljgaa
