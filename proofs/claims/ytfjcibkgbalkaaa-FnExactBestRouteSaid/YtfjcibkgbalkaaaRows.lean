/-
  No cell of these rows narrows 'for every input' (looked for: loops, veiled, ifaces, maps, wideKeys, modest, calm, conditions, laid).
  DERIVED. THE GIVEN ROWS OF THIS SEAT. 11 by the template 'for every input the law returns true; each argument reads behind the call as it read before'; 0 by the template 'total and deterministic' (their statements: YtfjcibkgbalkaaaTotals.lean).
  GIVEN WITH THE SEED: the statements are not yours to turn. If you find one false, say at which input.
  Laid BY PROGRAM, IN A SANDBOX (cutbox-rows.mjs): the forced cells as the released guide's own fill.sh prints them over the translation c4f044c79bc14da9… (all of the seat's roots in one cut). By AI agents, Wed Nov 11 2026. No macro, syntax, notation, axiom, sorry.
-/
import Derived.Test.YtfjcibkgbalkaaaChecked
import GoSem.Claim
import GoSem.ClaimJoined
import GoSem.ClaimMapViews
import Derived.JoinedTies
import Derived.KernelRfl
namespace Go.Proofs.Ytfjcibkgbalkaaa
/- THE CELL 'sum', in the pinned program and in every row, IS THE sha256 OF THE DUMP (.gsa) THAT YtfjcibkgbalkaaaProg.lean LOADS. Nothing in Lean hashes anything: it is a label: what it is worth is what the hold of that sum in a sandbox is worth. -/
noncomputable def Try.pinned : Pinned := { name := "ytfjcibkgbalkaaa", sum := "c4f044c79bc14da91ff619d319e36b8e324826762e838ac380c8795c264834b6", checked := Try.checked }
namespace Rows
def none {H : Type} : Left H := { results := [], args := [] }

/-- 'laws.FnRaises': WHATEVER THE INPUT: true; the input reads as it did. -/
def fnRaisesSpec : ChangeSpec := { name := "fnRaises", fn := fun _ => fun
  | [d] => { results := [.lit (.bool true)], args := [d] }
  | _ => none }
def fnRaisesRow : OpenClaim := { program := "ytfjcibkgbalkaaa", sum := "c4f044c79bc14da91ff619d319e36b8e324826762e838ac380c8795c264834b6", func := "loop.example/g01062/laws.FnRaises", spec := "fnRaises", unfollowed := true, recurses := true, apart := false }
def FnRaisesSaid : Prop := fnRaisesRow.holds Try.pinned (OpenSpec.ofChange fnRaisesSpec)

/-- ITS FALSE NEIGHBOUR: 'it returns false'. Refute it at one input. -/
def fnRaisesWrong : ChangeSpec := { name := "fnRaises", fn := fun _ => fun
  | [d] => { results := [.lit (.bool false)], args := [d] }
  | _ => none }
def FnRaisesWrongFalsely : Prop := fnRaisesRow.holds Try.pinned (OpenSpec.ofChange fnRaisesWrong)

/-- 'laws.FnRoutes': WHATEVER THE INPUT: true; the input reads as it did. -/
def fnRoutesSpec : ChangeSpec := { name := "fnRoutes", fn := fun _ => fun
  | [d] => { results := [.lit (.bool true)], args := [d] }
  | _ => none }
def fnRoutesRow : OpenClaim := { program := "ytfjcibkgbalkaaa", sum := "c4f044c79bc14da91ff619d319e36b8e324826762e838ac380c8795c264834b6", func := "loop.example/g01062/laws.FnRoutes", spec := "fnRoutes", apart := false }
def FnRoutesSaid : Prop := fnRoutesRow.holds Try.pinned (OpenSpec.ofChange fnRoutesSpec)

/-- ITS FALSE NEIGHBOUR: 'it returns false'. Refute it at one input. -/
def fnRoutesWrong : ChangeSpec := { name := "fnRoutes", fn := fun _ => fun
  | [d] => { results := [.lit (.bool false)], args := [d] }
  | _ => none }
def FnRoutesWrongFalsely : Prop := fnRoutesRow.holds Try.pinned (OpenSpec.ofChange fnRoutesWrong)

/-- 'laws.FnExactIsTimetable': WHATEVER THE INPUT: true; the input reads as it did. -/
def fnExactIsTimetableSpec : ChangeSpec := { name := "fnExactIsTimetable", fn := fun _ => fun
  | [d] => { results := [.lit (.bool true)], args := [d] }
  | _ => none }
def fnExactIsTimetableRow : OpenClaim := { program := "ytfjcibkgbalkaaa", sum := "c4f044c79bc14da91ff619d319e36b8e324826762e838ac380c8795c264834b6", func := "loop.example/g01062/laws.FnExactIsTimetable", spec := "fnExactIsTimetable", apart := false }
def FnExactIsTimetableSaid : Prop := fnExactIsTimetableRow.holds Try.pinned (OpenSpec.ofChange fnExactIsTimetableSpec)

/-- ITS FALSE NEIGHBOUR: 'it returns false'. Refute it at one input. -/
def fnExactIsTimetableWrong : ChangeSpec := { name := "fnExactIsTimetable", fn := fun _ => fun
  | [d] => { results := [.lit (.bool false)], args := [d] }
  | _ => none }
def FnExactIsTimetableWrongFalsely : Prop := fnExactIsTimetableRow.holds Try.pinned (OpenSpec.ofChange fnExactIsTimetableWrong)

/-- 'laws.FnExactIsRoute': WHATEVER THE INPUT: true; the input reads as it did. -/
def fnExactIsRouteSpec : ChangeSpec := { name := "fnExactIsRoute", fn := fun _ => fun
  | [d1, d2, d3, d4] => { results := [.lit (.bool true)], args := [d1, d2, d3, d4] }
  | _ => none }
def fnExactIsRouteRow : OpenClaim := { program := "ytfjcibkgbalkaaa", sum := "c4f044c79bc14da91ff619d319e36b8e324826762e838ac380c8795c264834b6", func := "loop.example/g01062/laws.FnExactIsRoute", spec := "fnExactIsRoute", apart := false }
def FnExactIsRouteSaid : Prop := fnExactIsRouteRow.holds Try.pinned (OpenSpec.ofChange fnExactIsRouteSpec)

/-- ITS FALSE NEIGHBOUR: 'it returns false'. Refute it at one input. -/
def fnExactIsRouteWrong : ChangeSpec := { name := "fnExactIsRoute", fn := fun _ => fun
  | [d1, d2, d3, d4] => { results := [.lit (.bool false)], args := [d1, d2, d3, d4] }
  | _ => none }
def FnExactIsRouteWrongFalsely : Prop := fnExactIsRouteRow.holds Try.pinned (OpenSpec.ofChange fnExactIsRouteWrong)

/-- 'laws.FnExactEndOfRoute': WHATEVER THE INPUT: true; the input reads as it did. -/
def fnExactEndOfRouteSpec : ChangeSpec := { name := "fnExactEndOfRoute", fn := fun _ => fun
  | [d1, d2, d3, d4] => { results := [.lit (.bool true)], args := [d1, d2, d3, d4] }
  | _ => none }
def fnExactEndOfRouteRow : OpenClaim := { program := "ytfjcibkgbalkaaa", sum := "c4f044c79bc14da91ff619d319e36b8e324826762e838ac380c8795c264834b6", func := "loop.example/g01062/laws.FnExactEndOfRoute", spec := "fnExactEndOfRoute", apart := false }
def FnExactEndOfRouteSaid : Prop := fnExactEndOfRouteRow.holds Try.pinned (OpenSpec.ofChange fnExactEndOfRouteSpec)

/-- ITS FALSE NEIGHBOUR: 'it returns false'. Refute it at one input. -/
def fnExactEndOfRouteWrong : ChangeSpec := { name := "fnExactEndOfRoute", fn := fun _ => fun
  | [d1, d2, d3, d4] => { results := [.lit (.bool false)], args := [d1, d2, d3, d4] }
  | _ => none }
def FnExactEndOfRouteWrongFalsely : Prop := fnExactEndOfRouteRow.holds Try.pinned (OpenSpec.ofChange fnExactEndOfRouteWrong)

/-- 'laws.FnExactEarliestAt': WHATEVER THE INPUT: true; the input reads as it did. -/
def fnExactEarliestAtSpec : ChangeSpec := { name := "fnExactEarliestAt", fn := fun _ => fun
  | [d1, d2, d3, d4] => { results := [.lit (.bool true)], args := [d1, d2, d3, d4] }
  | _ => none }
def fnExactEarliestAtRow : OpenClaim := { program := "ytfjcibkgbalkaaa", sum := "c4f044c79bc14da91ff619d319e36b8e324826762e838ac380c8795c264834b6", func := "loop.example/g01062/laws.FnExactEarliestAt", spec := "fnExactEarliestAt", apart := false }
def FnExactEarliestAtSaid : Prop := fnExactEarliestAtRow.holds Try.pinned (OpenSpec.ofChange fnExactEarliestAtSpec)

/-- ITS FALSE NEIGHBOUR: 'it returns false'. Refute it at one input. -/
def fnExactEarliestAtWrong : ChangeSpec := { name := "fnExactEarliestAt", fn := fun _ => fun
  | [d1, d2, d3, d4] => { results := [.lit (.bool false)], args := [d1, d2, d3, d4] }
  | _ => none }
def FnExactEarliestAtWrongFalsely : Prop := fnExactEarliestAtRow.holds Try.pinned (OpenSpec.ofChange fnExactEarliestAtWrong)

/-- 'laws.FnExactBestRoute': WHATEVER THE INPUT: true; the input reads as it did. -/
def fnExactBestRouteSpec : ChangeSpec := { name := "fnExactBestRoute", fn := fun _ => fun
  | [d1, d2, d3, d4] => { results := [.lit (.bool true)], args := [d1, d2, d3, d4] }
  | _ => none }
def fnExactBestRouteRow : OpenClaim := { program := "ytfjcibkgbalkaaa", sum := "c4f044c79bc14da91ff619d319e36b8e324826762e838ac380c8795c264834b6", func := "loop.example/g01062/laws.FnExactBestRoute", spec := "fnExactBestRoute", apart := false }
def FnExactBestRouteSaid : Prop := fnExactBestRouteRow.holds Try.pinned (OpenSpec.ofChange fnExactBestRouteSpec)

/-- ITS FALSE NEIGHBOUR: 'it returns false'. Refute it at one input. -/
def fnExactBestRouteWrong : ChangeSpec := { name := "fnExactBestRoute", fn := fun _ => fun
  | [d1, d2, d3, d4] => { results := [.lit (.bool false)], args := [d1, d2, d3, d4] }
  | _ => none }
def FnExactBestRouteWrongFalsely : Prop := fnExactBestRouteRow.holds Try.pinned (OpenSpec.ofChange fnExactBestRouteWrong)

/-- 'laws.FnExactLatestLeave': WHATEVER THE INPUT: true; the input reads as it did. -/
def fnExactLatestLeaveSpec : ChangeSpec := { name := "fnExactLatestLeave", fn := fun _ => fun
  | [d1, d2, d3, d4] => { results := [.lit (.bool true)], args := [d1, d2, d3, d4] }
  | _ => none }
def fnExactLatestLeaveRow : OpenClaim := { program := "ytfjcibkgbalkaaa", sum := "c4f044c79bc14da91ff619d319e36b8e324826762e838ac380c8795c264834b6", func := "loop.example/g01062/laws.FnExactLatestLeave", spec := "fnExactLatestLeave", apart := false }
def FnExactLatestLeaveSaid : Prop := fnExactLatestLeaveRow.holds Try.pinned (OpenSpec.ofChange fnExactLatestLeaveSpec)

/-- ITS FALSE NEIGHBOUR: 'it returns false'. Refute it at one input. -/
def fnExactLatestLeaveWrong : ChangeSpec := { name := "fnExactLatestLeave", fn := fun _ => fun
  | [d1, d2, d3, d4] => { results := [.lit (.bool false)], args := [d1, d2, d3, d4] }
  | _ => none }
def FnExactLatestLeaveWrongFalsely : Prop := fnExactLatestLeaveRow.holds Try.pinned (OpenSpec.ofChange fnExactLatestLeaveWrong)

/-- 'laws.FnExactReachedBy': WHATEVER THE INPUT: true; the input reads as it did. -/
def fnExactReachedBySpec : ChangeSpec := { name := "fnExactReachedBy", fn := fun _ => fun
  | [d1, d2, d3, d4] => { results := [.lit (.bool true)], args := [d1, d2, d3, d4] }
  | _ => none }
def fnExactReachedByRow : OpenClaim := { program := "ytfjcibkgbalkaaa", sum := "c4f044c79bc14da91ff619d319e36b8e324826762e838ac380c8795c264834b6", func := "loop.example/g01062/laws.FnExactReachedBy", spec := "fnExactReachedBy", apart := false }
def FnExactReachedBySaid : Prop := fnExactReachedByRow.holds Try.pinned (OpenSpec.ofChange fnExactReachedBySpec)

/-- ITS FALSE NEIGHBOUR: 'it returns false'. Refute it at one input. -/
def fnExactReachedByWrong : ChangeSpec := { name := "fnExactReachedBy", fn := fun _ => fun
  | [d1, d2, d3, d4] => { results := [.lit (.bool false)], args := [d1, d2, d3, d4] }
  | _ => none }
def FnExactReachedByWrongFalsely : Prop := fnExactReachedByRow.holds Try.pinned (OpenSpec.ofChange fnExactReachedByWrong)

/-- 'laws.FnExactWaitsOn': WHATEVER THE INPUT: true; the input reads as it did. -/
def fnExactWaitsOnSpec : ChangeSpec := { name := "fnExactWaitsOn", fn := fun _ => fun
  | [d1, d2, d3, d4] => { results := [.lit (.bool true)], args := [d1, d2, d3, d4] }
  | _ => none }
def fnExactWaitsOnRow : OpenClaim := { program := "ytfjcibkgbalkaaa", sum := "c4f044c79bc14da91ff619d319e36b8e324826762e838ac380c8795c264834b6", func := "loop.example/g01062/laws.FnExactWaitsOn", spec := "fnExactWaitsOn", apart := false }
def FnExactWaitsOnSaid : Prop := fnExactWaitsOnRow.holds Try.pinned (OpenSpec.ofChange fnExactWaitsOnSpec)

/-- ITS FALSE NEIGHBOUR: 'it returns false'. Refute it at one input. -/
def fnExactWaitsOnWrong : ChangeSpec := { name := "fnExactWaitsOn", fn := fun _ => fun
  | [d1, d2, d3, d4] => { results := [.lit (.bool false)], args := [d1, d2, d3, d4] }
  | _ => none }
def FnExactWaitsOnWrongFalsely : Prop := fnExactWaitsOnRow.holds Try.pinned (OpenSpec.ofChange fnExactWaitsOnWrong)

/-- 'laws.FnExactMissedMails': WHATEVER THE INPUT: true; the input reads as it did. -/
def fnExactMissedMailsSpec : ChangeSpec := { name := "fnExactMissedMails", fn := fun _ => fun
  | [d1, d2, d3] => { results := [.lit (.bool true)], args := [d1, d2, d3] }
  | _ => none }
def fnExactMissedMailsRow : OpenClaim := { program := "ytfjcibkgbalkaaa", sum := "c4f044c79bc14da91ff619d319e36b8e324826762e838ac380c8795c264834b6", func := "loop.example/g01062/laws.FnExactMissedMails", spec := "fnExactMissedMails", apart := false }
def FnExactMissedMailsSaid : Prop := fnExactMissedMailsRow.holds Try.pinned (OpenSpec.ofChange fnExactMissedMailsSpec)

/-- ITS FALSE NEIGHBOUR: 'it returns false'. Refute it at one input. -/
def fnExactMissedMailsWrong : ChangeSpec := { name := "fnExactMissedMails", fn := fun _ => fun
  | [d1, d2, d3] => { results := [.lit (.bool false)], args := [d1, d2, d3] }
  | _ => none }
def FnExactMissedMailsWrongFalsely : Prop := fnExactMissedMailsRow.holds Try.pinned (OpenSpec.ofChange fnExactMissedMailsWrong)

/- THE SECOND FORM. 'bulk': how many values and letters a reading holds, each counted each time it is reached (what is shared counts as often as it is met; a slice's spare places count too). A statement '..UptoSaid' is the law's where the arguments, and the package variables that the reading takes, are together of bulk at most 1048576: NARROWER than '..Said'. Prove '..Said' where nothing that the law and all that it calls make is longer than what came in: it says more and counts as full. Else prove '..UptoSaid'. A law counts once. -/
mutual
def uptoBulk {H : Type} : DataW H → Nat
  | .lit (.string bytes) => bytes.length + 1
  | .lit _ => 1
  | .nil => 1
  | .ptr d => uptoBulk d + 1
  | .slice elems spare => uptoBulkAll elems + uptoBulkAll spare + 1
  | .agg parts => uptoBulkAll parts + 1
  | .iface _ d => uptoBulk d + 1
  | .map entries => uptoBulkEntries entries + 1
  | .held _ => 1
def uptoBulkAll {H : Type} : List (DataW H) → Nat
  | [] => 0
  | d :: r => uptoBulk d + uptoBulkAll r
def uptoBulkEntries {H : Type} : List (Lit × DataW H) → Nat
  | [] => 0
  | x :: r => uptoBulkEntry x + uptoBulkEntries r
def uptoBulkEntry {H : Type} : Lit × DataW H → Nat
  | (.string bytes, d) => bytes.length + uptoBulk d + 1
  | (_, d) => uptoBulk d + 1
 end
def uptoSmall : (H : Type) → List (DataW H) → Bool := fun _ ds => decide (uptoBulkAll ds ≤ 1048576)
def OpenSpec.upto (s : _root_.Go.ChangeSpec) : _root_.Go.OpenSpec := { _root_.Go.OpenSpec.ofChange s with cond := some uptoSmall }

/-- 'laws.FnRaises', WHERE WHAT IT READS IS OF BULK AT MOST 1048576: true; the input reads as it did. -/
def fnRaisesUptoRow : OpenClaim := { program := "ytfjcibkgbalkaaa", sum := "c4f044c79bc14da91ff619d319e36b8e324826762e838ac380c8795c264834b6", func := "loop.example/g01062/laws.FnRaises", spec := "fnRaises", unfollowed := true, recurses := true, apart := false, narrowed := true }
def FnRaisesUptoSaid : Prop := fnRaisesUptoRow.holds Try.pinned (OpenSpec.upto fnRaisesSpec)

/-- 'laws.FnRoutes', WHERE WHAT IT READS IS OF BULK AT MOST 1048576: true; the input reads as it did. -/
def fnRoutesUptoRow : OpenClaim := { program := "ytfjcibkgbalkaaa", sum := "c4f044c79bc14da91ff619d319e36b8e324826762e838ac380c8795c264834b6", func := "loop.example/g01062/laws.FnRoutes", spec := "fnRoutes", apart := false, narrowed := true }
def FnRoutesUptoSaid : Prop := fnRoutesUptoRow.holds Try.pinned (OpenSpec.upto fnRoutesSpec)

/-- 'laws.FnExactIsTimetable', WHERE WHAT IT READS IS OF BULK AT MOST 1048576: true; the input reads as it did. -/
def fnExactIsTimetableUptoRow : OpenClaim := { program := "ytfjcibkgbalkaaa", sum := "c4f044c79bc14da91ff619d319e36b8e324826762e838ac380c8795c264834b6", func := "loop.example/g01062/laws.FnExactIsTimetable", spec := "fnExactIsTimetable", apart := false, narrowed := true }
def FnExactIsTimetableUptoSaid : Prop := fnExactIsTimetableUptoRow.holds Try.pinned (OpenSpec.upto fnExactIsTimetableSpec)

/-- 'laws.FnExactIsRoute', WHERE WHAT IT READS IS OF BULK AT MOST 1048576: true; the input reads as it did. -/
def fnExactIsRouteUptoRow : OpenClaim := { program := "ytfjcibkgbalkaaa", sum := "c4f044c79bc14da91ff619d319e36b8e324826762e838ac380c8795c264834b6", func := "loop.example/g01062/laws.FnExactIsRoute", spec := "fnExactIsRoute", apart := false, narrowed := true }
def FnExactIsRouteUptoSaid : Prop := fnExactIsRouteUptoRow.holds Try.pinned (OpenSpec.upto fnExactIsRouteSpec)

/-- 'laws.FnExactEndOfRoute', WHERE WHAT IT READS IS OF BULK AT MOST 1048576: true; the input reads as it did. -/
def fnExactEndOfRouteUptoRow : OpenClaim := { program := "ytfjcibkgbalkaaa", sum := "c4f044c79bc14da91ff619d319e36b8e324826762e838ac380c8795c264834b6", func := "loop.example/g01062/laws.FnExactEndOfRoute", spec := "fnExactEndOfRoute", apart := false, narrowed := true }
def FnExactEndOfRouteUptoSaid : Prop := fnExactEndOfRouteUptoRow.holds Try.pinned (OpenSpec.upto fnExactEndOfRouteSpec)

/-- 'laws.FnExactEarliestAt', WHERE WHAT IT READS IS OF BULK AT MOST 1048576: true; the input reads as it did. -/
def fnExactEarliestAtUptoRow : OpenClaim := { program := "ytfjcibkgbalkaaa", sum := "c4f044c79bc14da91ff619d319e36b8e324826762e838ac380c8795c264834b6", func := "loop.example/g01062/laws.FnExactEarliestAt", spec := "fnExactEarliestAt", apart := false, narrowed := true }
def FnExactEarliestAtUptoSaid : Prop := fnExactEarliestAtUptoRow.holds Try.pinned (OpenSpec.upto fnExactEarliestAtSpec)

/-- 'laws.FnExactBestRoute', WHERE WHAT IT READS IS OF BULK AT MOST 1048576: true; the input reads as it did. -/
def fnExactBestRouteUptoRow : OpenClaim := { program := "ytfjcibkgbalkaaa", sum := "c4f044c79bc14da91ff619d319e36b8e324826762e838ac380c8795c264834b6", func := "loop.example/g01062/laws.FnExactBestRoute", spec := "fnExactBestRoute", apart := false, narrowed := true }
def FnExactBestRouteUptoSaid : Prop := fnExactBestRouteUptoRow.holds Try.pinned (OpenSpec.upto fnExactBestRouteSpec)

/-- 'laws.FnExactLatestLeave', WHERE WHAT IT READS IS OF BULK AT MOST 1048576: true; the input reads as it did. -/
def fnExactLatestLeaveUptoRow : OpenClaim := { program := "ytfjcibkgbalkaaa", sum := "c4f044c79bc14da91ff619d319e36b8e324826762e838ac380c8795c264834b6", func := "loop.example/g01062/laws.FnExactLatestLeave", spec := "fnExactLatestLeave", apart := false, narrowed := true }
def FnExactLatestLeaveUptoSaid : Prop := fnExactLatestLeaveUptoRow.holds Try.pinned (OpenSpec.upto fnExactLatestLeaveSpec)

/-- 'laws.FnExactReachedBy', WHERE WHAT IT READS IS OF BULK AT MOST 1048576: true; the input reads as it did. -/
def fnExactReachedByUptoRow : OpenClaim := { program := "ytfjcibkgbalkaaa", sum := "c4f044c79bc14da91ff619d319e36b8e324826762e838ac380c8795c264834b6", func := "loop.example/g01062/laws.FnExactReachedBy", spec := "fnExactReachedBy", apart := false, narrowed := true }
def FnExactReachedByUptoSaid : Prop := fnExactReachedByUptoRow.holds Try.pinned (OpenSpec.upto fnExactReachedBySpec)

/-- 'laws.FnExactWaitsOn', WHERE WHAT IT READS IS OF BULK AT MOST 1048576: true; the input reads as it did. -/
def fnExactWaitsOnUptoRow : OpenClaim := { program := "ytfjcibkgbalkaaa", sum := "c4f044c79bc14da91ff619d319e36b8e324826762e838ac380c8795c264834b6", func := "loop.example/g01062/laws.FnExactWaitsOn", spec := "fnExactWaitsOn", apart := false, narrowed := true }
def FnExactWaitsOnUptoSaid : Prop := fnExactWaitsOnUptoRow.holds Try.pinned (OpenSpec.upto fnExactWaitsOnSpec)

/-- 'laws.FnExactMissedMails', WHERE WHAT IT READS IS OF BULK AT MOST 1048576: true; the input reads as it did. -/
def fnExactMissedMailsUptoRow : OpenClaim := { program := "ytfjcibkgbalkaaa", sum := "c4f044c79bc14da91ff619d319e36b8e324826762e838ac380c8795c264834b6", func := "loop.example/g01062/laws.FnExactMissedMails", spec := "fnExactMissedMails", apart := false, narrowed := true }
def FnExactMissedMailsUptoSaid : Prop := fnExactMissedMailsUptoRow.holds Try.pinned (OpenSpec.upto fnExactMissedMailsSpec)

end Rows
end Go.Proofs.Ytfjcibkgbalkaaa
