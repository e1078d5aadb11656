/-
  No cell of these rows narrows 'for every input' (looked for: loops, veiled, ifaces, maps, wideKeys, modest, calm, conditions, laid).
  DERIVED. THE GIVEN ROWS OF THIS SEAT. 11 by the template 'for every input the law returns true; each argument reads behind the call as it read before'; 0 by the template 'total and deterministic' (their statements: YtpaakpbbahbhcaaTotals.lean).
  GIVEN WITH THE SEED: the statements are not yours to turn. If you find one false, say at which input.
  Laid BY PROGRAM, IN A SANDBOX (cutbox-rows.mjs): the forced cells as the released guide's own fill.sh prints them over the translation 2f0c2b718d0dc4b9… (all of the seat's roots in one cut). By AI agents, Wed Nov 11 2026. No macro, syntax, notation, axiom, sorry.
-/
import Derived.Test.YtpaakpbbahbhcaaChecked
import GoSem.Claim
import GoSem.ClaimJoined
import GoSem.ClaimMapViews
import Derived.JoinedTies
import Derived.KernelRfl
namespace Go.Proofs.Ytpaakpbbahbhcaa
/- THE CELL 'sum', in the pinned program and in every row, IS THE sha256 OF THE DUMP (.gsa) THAT YtpaakpbbahbhcaaProg.lean LOADS. Nothing in Lean hashes anything: it is a label: what it is worth is what the hold of that sum in a sandbox is worth. -/
noncomputable def Try.pinned : Pinned := { name := "ytpaakpbbahbhcaa", sum := "2f0c2b718d0dc4b92da52978ff974c3d4d9db9c2b2c1e2cb51a44c6ee041f088", checked := Try.checked }
namespace Rows
def none {H : Type} : Left H := { results := [], args := [] }

/-- 'laws.FnCensus': WHATEVER THE INPUT: true; the input reads as it did. -/
def fnCensusSpec : ChangeSpec := { name := "fnCensus", fn := fun _ => fun
  | [d] => { results := [.lit (.bool true)], args := [d] }
  | _ => none }
def fnCensusRow : OpenClaim := { program := "ytpaakpbbahbhcaa", sum := "2f0c2b718d0dc4b92da52978ff974c3d4d9db9c2b2c1e2cb51a44c6ee041f088", func := "loop.example/g01062/laws.FnCensus", spec := "fnCensus", unfollowed := true, recurses := true, apart := false }
def FnCensusSaid : Prop := fnCensusRow.holds Try.pinned (OpenSpec.ofChange fnCensusSpec)

/-- ITS FALSE NEIGHBOUR: 'it returns false'. Refute it at one input. -/
def fnCensusWrong : ChangeSpec := { name := "fnCensus", fn := fun _ => fun
  | [d] => { results := [.lit (.bool false)], args := [d] }
  | _ => none }
def FnCensusWrongFalsely : Prop := fnCensusRow.holds Try.pinned (OpenSpec.ofChange fnCensusWrong)

/-- 'laws.FnExactAreSightings': WHATEVER THE INPUT: true; the input reads as it did. -/
def fnExactAreSightingsSpec : ChangeSpec := { name := "fnExactAreSightings", fn := fun _ => fun
  | [d] => { results := [.lit (.bool true)], args := [d] }
  | _ => none }
def fnExactAreSightingsRow : OpenClaim := { program := "ytpaakpbbahbhcaa", sum := "2f0c2b718d0dc4b92da52978ff974c3d4d9db9c2b2c1e2cb51a44c6ee041f088", func := "loop.example/g01062/laws.FnExactAreSightings", spec := "fnExactAreSightings", unfollowed := true, recurses := true, apart := false }
def FnExactAreSightingsSaid : Prop := fnExactAreSightingsRow.holds Try.pinned (OpenSpec.ofChange fnExactAreSightingsSpec)

/-- ITS FALSE NEIGHBOUR: 'it returns false'. Refute it at one input. -/
def fnExactAreSightingsWrong : ChangeSpec := { name := "fnExactAreSightings", fn := fun _ => fun
  | [d] => { results := [.lit (.bool false)], args := [d] }
  | _ => none }
def FnExactAreSightingsWrongFalsely : Prop := fnExactAreSightingsRow.holds Try.pinned (OpenSpec.ofChange fnExactAreSightingsWrong)

/-- 'laws.FnExactEvidenceOf': WHATEVER THE INPUT: true; the input reads as it did. -/
def fnExactEvidenceOfSpec : ChangeSpec := { name := "fnExactEvidenceOf", fn := fun _ => fun
  | [d1, d2, d3] => { results := [.lit (.bool true)], args := [d1, d2, d3] }
  | _ => none }
def fnExactEvidenceOfRow : OpenClaim := { program := "ytpaakpbbahbhcaa", sum := "2f0c2b718d0dc4b92da52978ff974c3d4d9db9c2b2c1e2cb51a44c6ee041f088", func := "loop.example/g01062/laws.FnExactEvidenceOf", spec := "fnExactEvidenceOf", unfollowed := true, recurses := true, apart := false }
def FnExactEvidenceOfSaid : Prop := fnExactEvidenceOfRow.holds Try.pinned (OpenSpec.ofChange fnExactEvidenceOfSpec)

/-- ITS FALSE NEIGHBOUR: 'it returns false'. Refute it at one input. -/
def fnExactEvidenceOfWrong : ChangeSpec := { name := "fnExactEvidenceOf", fn := fun _ => fun
  | [d1, d2, d3] => { results := [.lit (.bool false)], args := [d1, d2, d3] }
  | _ => none }
def FnExactEvidenceOfWrongFalsely : Prop := fnExactEvidenceOfRow.holds Try.pinned (OpenSpec.ofChange fnExactEvidenceOfWrong)

/-- 'laws.FnExactCoversSeen': WHATEVER THE INPUT: true; the input reads as it did. -/
def fnExactCoversSeenSpec : ChangeSpec := { name := "fnExactCoversSeen", fn := fun _ => fun
  | [d1, d2] => { results := [.lit (.bool true)], args := [d1, d2] }
  | _ => none }
def fnExactCoversSeenRow : OpenClaim := { program := "ytpaakpbbahbhcaa", sum := "2f0c2b718d0dc4b92da52978ff974c3d4d9db9c2b2c1e2cb51a44c6ee041f088", func := "loop.example/g01062/laws.FnExactCoversSeen", spec := "fnExactCoversSeen", unfollowed := true, recurses := true, apart := false }
def FnExactCoversSeenSaid : Prop := fnExactCoversSeenRow.holds Try.pinned (OpenSpec.ofChange fnExactCoversSeenSpec)

/-- ITS FALSE NEIGHBOUR: 'it returns false'. Refute it at one input. -/
def fnExactCoversSeenWrong : ChangeSpec := { name := "fnExactCoversSeen", fn := fun _ => fun
  | [d1, d2] => { results := [.lit (.bool false)], args := [d1, d2] }
  | _ => none }
def FnExactCoversSeenWrongFalsely : Prop := fnExactCoversSeenRow.holds Try.pinned (OpenSpec.ofChange fnExactCoversSeenWrong)

/-- 'laws.FnExactLoneSightings': WHATEVER THE INPUT: true; the input reads as it did. -/
def fnExactLoneSightingsSpec : ChangeSpec := { name := "fnExactLoneSightings", fn := fun _ => fun
  | [d1, d2] => { results := [.lit (.bool true)], args := [d1, d2] }
  | _ => none }
def fnExactLoneSightingsRow : OpenClaim := { program := "ytpaakpbbahbhcaa", sum := "2f0c2b718d0dc4b92da52978ff974c3d4d9db9c2b2c1e2cb51a44c6ee041f088", func := "loop.example/g01062/laws.FnExactLoneSightings", spec := "fnExactLoneSightings", unfollowed := true, recurses := true, apart := false }
def FnExactLoneSightingsSaid : Prop := fnExactLoneSightingsRow.holds Try.pinned (OpenSpec.ofChange fnExactLoneSightingsSpec)

/-- ITS FALSE NEIGHBOUR: 'it returns false'. Refute it at one input. -/
def fnExactLoneSightingsWrong : ChangeSpec := { name := "fnExactLoneSightings", fn := fun _ => fun
  | [d1, d2] => { results := [.lit (.bool false)], args := [d1, d2] }
  | _ => none }
def FnExactLoneSightingsWrongFalsely : Prop := fnExactLoneSightingsRow.holds Try.pinned (OpenSpec.ofChange fnExactLoneSightingsWrong)

/-- 'laws.FnExactStrongestPair': WHATEVER THE INPUT: true; the input reads as it did. -/
def fnExactStrongestPairSpec : ChangeSpec := { name := "fnExactStrongestPair", fn := fun _ => fun
  | [d] => { results := [.lit (.bool true)], args := [d] }
  | _ => none }
def fnExactStrongestPairRow : OpenClaim := { program := "ytpaakpbbahbhcaa", sum := "2f0c2b718d0dc4b92da52978ff974c3d4d9db9c2b2c1e2cb51a44c6ee041f088", func := "loop.example/g01062/laws.FnExactStrongestPair", spec := "fnExactStrongestPair", unfollowed := true, recurses := true, apart := false }
def FnExactStrongestPairSaid : Prop := fnExactStrongestPairRow.holds Try.pinned (OpenSpec.ofChange fnExactStrongestPairSpec)

/-- ITS FALSE NEIGHBOUR: 'it returns false'. Refute it at one input. -/
def fnExactStrongestPairWrong : ChangeSpec := { name := "fnExactStrongestPair", fn := fun _ => fun
  | [d] => { results := [.lit (.bool false)], args := [d] }
  | _ => none }
def FnExactStrongestPairWrongFalsely : Prop := fnExactStrongestPairRow.holds Try.pinned (OpenSpec.ofChange fnExactStrongestPairWrong)

/-- 'laws.FnExactDoubtfulPairs': WHATEVER THE INPUT: true; the input reads as it did. -/
def fnExactDoubtfulPairsSpec : ChangeSpec := { name := "fnExactDoubtfulPairs", fn := fun _ => fun
  | [d1, d2] => { results := [.lit (.bool true)], args := [d1, d2] }
  | _ => none }
def fnExactDoubtfulPairsRow : OpenClaim := { program := "ytpaakpbbahbhcaa", sum := "2f0c2b718d0dc4b92da52978ff974c3d4d9db9c2b2c1e2cb51a44c6ee041f088", func := "loop.example/g01062/laws.FnExactDoubtfulPairs", spec := "fnExactDoubtfulPairs", unfollowed := true, recurses := true, apart := false }
def FnExactDoubtfulPairsSaid : Prop := fnExactDoubtfulPairsRow.holds Try.pinned (OpenSpec.ofChange fnExactDoubtfulPairsSpec)

/-- ITS FALSE NEIGHBOUR: 'it returns false'. Refute it at one input. -/
def fnExactDoubtfulPairsWrong : ChangeSpec := { name := "fnExactDoubtfulPairs", fn := fun _ => fun
  | [d1, d2] => { results := [.lit (.bool false)], args := [d1, d2] }
  | _ => none }
def FnExactDoubtfulPairsWrongFalsely : Prop := fnExactDoubtfulPairsRow.holds Try.pinned (OpenSpec.ofChange fnExactDoubtfulPairsWrong)

/-- 'laws.FnExactTraitsSeen': WHATEVER THE INPUT: true; the input reads as it did. -/
def fnExactTraitsSeenSpec : ChangeSpec := { name := "fnExactTraitsSeen", fn := fun _ => fun
  | [d1, d2, d3] => { results := [.lit (.bool true)], args := [d1, d2, d3] }
  | _ => none }
def fnExactTraitsSeenRow : OpenClaim := { program := "ytpaakpbbahbhcaa", sum := "2f0c2b718d0dc4b92da52978ff974c3d4d9db9c2b2c1e2cb51a44c6ee041f088", func := "loop.example/g01062/laws.FnExactTraitsSeen", spec := "fnExactTraitsSeen", unfollowed := true, recurses := true, apart := false }
def FnExactTraitsSeenSaid : Prop := fnExactTraitsSeenRow.holds Try.pinned (OpenSpec.ofChange fnExactTraitsSeenSpec)

/-- ITS FALSE NEIGHBOUR: 'it returns false'. Refute it at one input. -/
def fnExactTraitsSeenWrong : ChangeSpec := { name := "fnExactTraitsSeen", fn := fun _ => fun
  | [d1, d2, d3] => { results := [.lit (.bool false)], args := [d1, d2, d3] }
  | _ => none }
def FnExactTraitsSeenWrongFalsely : Prop := fnExactTraitsSeenRow.holds Try.pinned (OpenSpec.ofChange fnExactTraitsSeenWrong)

/-- 'laws.FnExactYearsSeen': WHATEVER THE INPUT: true; the input reads as it did. -/
def fnExactYearsSeenSpec : ChangeSpec := { name := "fnExactYearsSeen", fn := fun _ => fun
  | [d1, d2, d3] => { results := [.lit (.bool true)], args := [d1, d2, d3] }
  | _ => none }
def fnExactYearsSeenRow : OpenClaim := { program := "ytpaakpbbahbhcaa", sum := "2f0c2b718d0dc4b92da52978ff974c3d4d9db9c2b2c1e2cb51a44c6ee041f088", func := "loop.example/g01062/laws.FnExactYearsSeen", spec := "fnExactYearsSeen", unfollowed := true, recurses := true, apart := false }
def FnExactYearsSeenSaid : Prop := fnExactYearsSeenRow.holds Try.pinned (OpenSpec.ofChange fnExactYearsSeenSpec)

/-- ITS FALSE NEIGHBOUR: 'it returns false'. Refute it at one input. -/
def fnExactYearsSeenWrong : ChangeSpec := { name := "fnExactYearsSeen", fn := fun _ => fun
  | [d1, d2, d3] => { results := [.lit (.bool false)], args := [d1, d2, d3] }
  | _ => none }
def FnExactYearsSeenWrongFalsely : Prop := fnExactYearsSeenRow.holds Try.pinned (OpenSpec.ofChange fnExactYearsSeenWrong)

/-- 'laws.FnExactGreatestLimit': WHATEVER THE INPUT: true; the input reads as it did. -/
def fnExactGreatestLimitSpec : ChangeSpec := { name := "fnExactGreatestLimit", fn := fun _ => fun
  | [d1, d2, d3] => { results := [.lit (.bool true)], args := [d1, d2, d3] }
  | _ => none }
def fnExactGreatestLimitRow : OpenClaim := { program := "ytpaakpbbahbhcaa", sum := "2f0c2b718d0dc4b92da52978ff974c3d4d9db9c2b2c1e2cb51a44c6ee041f088", func := "loop.example/g01062/laws.FnExactGreatestLimit", spec := "fnExactGreatestLimit", unfollowed := true, recurses := true, apart := false }
def FnExactGreatestLimitSaid : Prop := fnExactGreatestLimitRow.holds Try.pinned (OpenSpec.ofChange fnExactGreatestLimitSpec)

/-- ITS FALSE NEIGHBOUR: 'it returns false'. Refute it at one input. -/
def fnExactGreatestLimitWrong : ChangeSpec := { name := "fnExactGreatestLimit", fn := fun _ => fun
  | [d1, d2, d3] => { results := [.lit (.bool false)], args := [d1, d2, d3] }
  | _ => none }
def FnExactGreatestLimitWrongFalsely : Prop := fnExactGreatestLimitRow.holds Try.pinned (OpenSpec.ofChange fnExactGreatestLimitWrong)

/-- 'laws.FnExactAddSighting': WHATEVER THE INPUT: true; the input reads as it did. -/
def fnExactAddSightingSpec : ChangeSpec := { name := "fnExactAddSighting", fn := fun _ => fun
  | [d1, d2, d3, d4] => { results := [.lit (.bool true)], args := [d1, d2, d3, d4] }
  | _ => none }
def fnExactAddSightingRow : OpenClaim := { program := "ytpaakpbbahbhcaa", sum := "2f0c2b718d0dc4b92da52978ff974c3d4d9db9c2b2c1e2cb51a44c6ee041f088", func := "loop.example/g01062/laws.FnExactAddSighting", spec := "fnExactAddSighting", unfollowed := true, recurses := true, apart := false }
def FnExactAddSightingSaid : Prop := fnExactAddSightingRow.holds Try.pinned (OpenSpec.ofChange fnExactAddSightingSpec)

/-- ITS FALSE NEIGHBOUR: 'it returns false'. Refute it at one input. -/
def fnExactAddSightingWrong : ChangeSpec := { name := "fnExactAddSighting", fn := fun _ => fun
  | [d1, d2, d3, d4] => { results := [.lit (.bool false)], args := [d1, d2, d3, d4] }
  | _ => none }
def FnExactAddSightingWrongFalsely : Prop := fnExactAddSightingRow.holds Try.pinned (OpenSpec.ofChange fnExactAddSightingWrong)

/- THE SECOND FORM. 'bulk': how many values and letters a reading holds, each counted each time it is reached (what is shared counts as often as it is met; a slice's spare places count too). A statement '..UptoSaid' is the law's where the arguments, and the package variables that the reading takes, are together of bulk at most 1048576: NARROWER than '..Said'. Prove '..Said' where nothing that the law and all that it calls make is longer than what came in: it says more and counts as full. Else prove '..UptoSaid'. A law counts once. -/
mutual
def uptoBulk {H : Type} : DataW H → Nat
  | .lit (.string bytes) => bytes.length + 1
  | .lit _ => 1
  | .nil => 1
  | .ptr d => uptoBulk d + 1
  | .slice elems spare => uptoBulkAll elems + uptoBulkAll spare + 1
  | .agg parts => uptoBulkAll parts + 1
  | .iface _ d => uptoBulk d + 1
  | .map entries => uptoBulkEntries entries + 1
  | .held _ => 1
def uptoBulkAll {H : Type} : List (DataW H) → Nat
  | [] => 0
  | d :: r => uptoBulk d + uptoBulkAll r
def uptoBulkEntries {H : Type} : List (Lit × DataW H) → Nat
  | [] => 0
  | x :: r => uptoBulkEntry x + uptoBulkEntries r
def uptoBulkEntry {H : Type} : Lit × DataW H → Nat
  | (.string bytes, d) => bytes.length + uptoBulk d + 1
  | (_, d) => uptoBulk d + 1
 end
def uptoSmall : (H : Type) → List (DataW H) → Bool := fun _ ds => decide (uptoBulkAll ds ≤ 1048576)
def OpenSpec.upto (s : _root_.Go.ChangeSpec) : _root_.Go.OpenSpec := { _root_.Go.OpenSpec.ofChange s with cond := some uptoSmall }

/-- 'laws.FnCensus', WHERE WHAT IT READS IS OF BULK AT MOST 1048576: true; the input reads as it did. -/
def fnCensusUptoRow : OpenClaim := { program := "ytpaakpbbahbhcaa", sum := "2f0c2b718d0dc4b92da52978ff974c3d4d9db9c2b2c1e2cb51a44c6ee041f088", func := "loop.example/g01062/laws.FnCensus", spec := "fnCensus", unfollowed := true, recurses := true, apart := false, narrowed := true }
def FnCensusUptoSaid : Prop := fnCensusUptoRow.holds Try.pinned (OpenSpec.upto fnCensusSpec)

/-- 'laws.FnExactAreSightings', WHERE WHAT IT READS IS OF BULK AT MOST 1048576: true; the input reads as it did. -/
def fnExactAreSightingsUptoRow : OpenClaim := { program := "ytpaakpbbahbhcaa", sum := "2f0c2b718d0dc4b92da52978ff974c3d4d9db9c2b2c1e2cb51a44c6ee041f088", func := "loop.example/g01062/laws.FnExactAreSightings", spec := "fnExactAreSightings", unfollowed := true, recurses := true, apart := false, narrowed := true }
def FnExactAreSightingsUptoSaid : Prop := fnExactAreSightingsUptoRow.holds Try.pinned (OpenSpec.upto fnExactAreSightingsSpec)

/-- 'laws.FnExactEvidenceOf', WHERE WHAT IT READS IS OF BULK AT MOST 1048576: true; the input reads as it did. -/
def fnExactEvidenceOfUptoRow : OpenClaim := { program := "ytpaakpbbahbhcaa", sum := "2f0c2b718d0dc4b92da52978ff974c3d4d9db9c2b2c1e2cb51a44c6ee041f088", func := "loop.example/g01062/laws.FnExactEvidenceOf", spec := "fnExactEvidenceOf", unfollowed := true, recurses := true, apart := false, narrowed := true }
def FnExactEvidenceOfUptoSaid : Prop := fnExactEvidenceOfUptoRow.holds Try.pinned (OpenSpec.upto fnExactEvidenceOfSpec)

/-- 'laws.FnExactCoversSeen', WHERE WHAT IT READS IS OF BULK AT MOST 1048576: true; the input reads as it did. -/
def fnExactCoversSeenUptoRow : OpenClaim := { program := "ytpaakpbbahbhcaa", sum := "2f0c2b718d0dc4b92da52978ff974c3d4d9db9c2b2c1e2cb51a44c6ee041f088", func := "loop.example/g01062/laws.FnExactCoversSeen", spec := "fnExactCoversSeen", unfollowed := true, recurses := true, apart := false, narrowed := true }
def FnExactCoversSeenUptoSaid : Prop := fnExactCoversSeenUptoRow.holds Try.pinned (OpenSpec.upto fnExactCoversSeenSpec)

/-- 'laws.FnExactLoneSightings', WHERE WHAT IT READS IS OF BULK AT MOST 1048576: true; the input reads as it did. -/
def fnExactLoneSightingsUptoRow : OpenClaim := { program := "ytpaakpbbahbhcaa", sum := "2f0c2b718d0dc4b92da52978ff974c3d4d9db9c2b2c1e2cb51a44c6ee041f088", func := "loop.example/g01062/laws.FnExactLoneSightings", spec := "fnExactLoneSightings", unfollowed := true, recurses := true, apart := false, narrowed := true }
def FnExactLoneSightingsUptoSaid : Prop := fnExactLoneSightingsUptoRow.holds Try.pinned (OpenSpec.upto fnExactLoneSightingsSpec)

/-- 'laws.FnExactStrongestPair', WHERE WHAT IT READS IS OF BULK AT MOST 1048576: true; the input reads as it did. -/
def fnExactStrongestPairUptoRow : OpenClaim := { program := "ytpaakpbbahbhcaa", sum := "2f0c2b718d0dc4b92da52978ff974c3d4d9db9c2b2c1e2cb51a44c6ee041f088", func := "loop.example/g01062/laws.FnExactStrongestPair", spec := "fnExactStrongestPair", unfollowed := true, recurses := true, apart := false, narrowed := true }
def FnExactStrongestPairUptoSaid : Prop := fnExactStrongestPairUptoRow.holds Try.pinned (OpenSpec.upto fnExactStrongestPairSpec)

/-- 'laws.FnExactDoubtfulPairs', WHERE WHAT IT READS IS OF BULK AT MOST 1048576: true; the input reads as it did. -/
def fnExactDoubtfulPairsUptoRow : OpenClaim := { program := "ytpaakpbbahbhcaa", sum := "2f0c2b718d0dc4b92da52978ff974c3d4d9db9c2b2c1e2cb51a44c6ee041f088", func := "loop.example/g01062/laws.FnExactDoubtfulPairs", spec := "fnExactDoubtfulPairs", unfollowed := true, recurses := true, apart := false, narrowed := true }
def FnExactDoubtfulPairsUptoSaid : Prop := fnExactDoubtfulPairsUptoRow.holds Try.pinned (OpenSpec.upto fnExactDoubtfulPairsSpec)

/-- 'laws.FnExactTraitsSeen', WHERE WHAT IT READS IS OF BULK AT MOST 1048576: true; the input reads as it did. -/
def fnExactTraitsSeenUptoRow : OpenClaim := { program := "ytpaakpbbahbhcaa", sum := "2f0c2b718d0dc4b92da52978ff974c3d4d9db9c2b2c1e2cb51a44c6ee041f088", func := "loop.example/g01062/laws.FnExactTraitsSeen", spec := "fnExactTraitsSeen", unfollowed := true, recurses := true, apart := false, narrowed := true }
def FnExactTraitsSeenUptoSaid : Prop := fnExactTraitsSeenUptoRow.holds Try.pinned (OpenSpec.upto fnExactTraitsSeenSpec)

/-- 'laws.FnExactYearsSeen', WHERE WHAT IT READS IS OF BULK AT MOST 1048576: true; the input reads as it did. -/
def fnExactYearsSeenUptoRow : OpenClaim := { program := "ytpaakpbbahbhcaa", sum := "2f0c2b718d0dc4b92da52978ff974c3d4d9db9c2b2c1e2cb51a44c6ee041f088", func := "loop.example/g01062/laws.FnExactYearsSeen", spec := "fnExactYearsSeen", unfollowed := true, recurses := true, apart := false, narrowed := true }
def FnExactYearsSeenUptoSaid : Prop := fnExactYearsSeenUptoRow.holds Try.pinned (OpenSpec.upto fnExactYearsSeenSpec)

/-- 'laws.FnExactGreatestLimit', WHERE WHAT IT READS IS OF BULK AT MOST 1048576: true; the input reads as it did. -/
def fnExactGreatestLimitUptoRow : OpenClaim := { program := "ytpaakpbbahbhcaa", sum := "2f0c2b718d0dc4b92da52978ff974c3d4d9db9c2b2c1e2cb51a44c6ee041f088", func := "loop.example/g01062/laws.FnExactGreatestLimit", spec := "fnExactGreatestLimit", unfollowed := true, recurses := true, apart := false, narrowed := true }
def FnExactGreatestLimitUptoSaid : Prop := fnExactGreatestLimitUptoRow.holds Try.pinned (OpenSpec.upto fnExactGreatestLimitSpec)

/-- 'laws.FnExactAddSighting', WHERE WHAT IT READS IS OF BULK AT MOST 1048576: true; the input reads as it did. -/
def fnExactAddSightingUptoRow : OpenClaim := { program := "ytpaakpbbahbhcaa", sum := "2f0c2b718d0dc4b92da52978ff974c3d4d9db9c2b2c1e2cb51a44c6ee041f088", func := "loop.example/g01062/laws.FnExactAddSighting", spec := "fnExactAddSighting", unfollowed := true, recurses := true, apart := false, narrowed := true }
def FnExactAddSightingUptoSaid : Prop := fnExactAddSightingUptoRow.holds Try.pinned (OpenSpec.upto fnExactAddSightingSpec)

end Rows
end Go.Proofs.Ytpaakpbbahbhcaa
