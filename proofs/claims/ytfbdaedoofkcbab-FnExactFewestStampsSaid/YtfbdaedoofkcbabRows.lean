/-
  No cell of these rows narrows 'for every input' (looked for: loops, veiled, ifaces, maps, wideKeys, modest, calm, conditions, laid).
  DERIVED. THE GIVEN ROWS OF THIS SEAT. 10 by the template 'for every input the law returns true; each argument reads behind the call as it read before'; 0 by the template 'total and deterministic' (their statements: YtfbdaedoofkcbabTotals.lean).
  GIVEN WITH THE SEED: the statements are not yours to turn. If you find one false, say at which input.
  Laid BY PROGRAM, IN A SANDBOX (cutbox-rows.mjs): the forced cells as the released guide's own fill.sh prints them over the translation 892204847d44bea2… (all of the seat's roots in one cut). By AI agents, Wed Nov 11 2026. No macro, syntax, notation, axiom, sorry.
-/
import Derived.Test.YtfbdaedoofkcbabChecked
import GoSem.Claim
import GoSem.ClaimJoined
import GoSem.ClaimMapViews
import Derived.JoinedTies
import Derived.KernelRfl
namespace Go.Proofs.Ytfbdaedoofkcbab
/- THE CELL 'sum', in the pinned program and in every row, IS THE sha256 OF THE DUMP (.gsa) THAT YtfbdaedoofkcbabProg.lean LOADS. Nothing in Lean hashes anything: it is a label: what it is worth is what the hold of that sum in a sandbox is worth. -/
noncomputable def Try.pinned : Pinned := { name := "ytfbdaedoofkcbab", sum := "892204847d44bea2d1e7e2db6ca0e1347561b4bb6b38860fd9e0bc209bf7a56a", checked := Try.checked }
namespace Rows
def none {H : Type} : Left H := { results := [], args := [] }

/-- 'laws.FnExactAreStamps': WHATEVER THE INPUT: true; the input reads as it did. -/
def fnExactAreStampsSpec : ChangeSpec := { name := "fnExactAreStamps", fn := fun _ => fun
  | [d] => { results := [.lit (.bool true)], args := [d] }
  | _ => none }
def fnExactAreStampsRow : OpenClaim := { program := "ytfbdaedoofkcbab", sum := "892204847d44bea2d1e7e2db6ca0e1347561b4bb6b38860fd9e0bc209bf7a56a", func := "loop.example/g01062/laws.FnExactAreStamps", spec := "fnExactAreStamps", unfollowed := true, recurses := true, apart := false }
def FnExactAreStampsSaid : Prop := fnExactAreStampsRow.holds Try.pinned (OpenSpec.ofChange fnExactAreStampsSpec)

/-- ITS FALSE NEIGHBOUR: 'it returns false'. Refute it at one input. -/
def fnExactAreStampsWrong : ChangeSpec := { name := "fnExactAreStamps", fn := fun _ => fun
  | [d] => { results := [.lit (.bool false)], args := [d] }
  | _ => none }
def FnExactAreStampsWrongFalsely : Prop := fnExactAreStampsRow.holds Try.pinned (OpenSpec.ofChange fnExactAreStampsWrong)

/-- 'laws.FnExactValueOf': WHATEVER THE INPUT: true; the input reads as it did. -/
def fnExactValueOfSpec : ChangeSpec := { name := "fnExactValueOf", fn := fun _ => fun
  | [d1, d2] => { results := [.lit (.bool true)], args := [d1, d2] }
  | _ => none }
def fnExactValueOfRow : OpenClaim := { program := "ytfbdaedoofkcbab", sum := "892204847d44bea2d1e7e2db6ca0e1347561b4bb6b38860fd9e0bc209bf7a56a", func := "loop.example/g01062/laws.FnExactValueOf", spec := "fnExactValueOf", unfollowed := true, recurses := true, apart := false }
def FnExactValueOfSaid : Prop := fnExactValueOfRow.holds Try.pinned (OpenSpec.ofChange fnExactValueOfSpec)

/-- ITS FALSE NEIGHBOUR: 'it returns false'. Refute it at one input. -/
def fnExactValueOfWrong : ChangeSpec := { name := "fnExactValueOf", fn := fun _ => fun
  | [d1, d2] => { results := [.lit (.bool false)], args := [d1, d2] }
  | _ => none }
def FnExactValueOfWrongFalsely : Prop := fnExactValueOfRow.holds Try.pinned (OpenSpec.ofChange fnExactValueOfWrong)

/-- 'laws.FnExactIssuedBy': WHATEVER THE INPUT: true; the input reads as it did. -/
def fnExactIssuedBySpec : ChangeSpec := { name := "fnExactIssuedBy", fn := fun _ => fun
  | [d1, d2] => { results := [.lit (.bool true)], args := [d1, d2] }
  | _ => none }
def fnExactIssuedByRow : OpenClaim := { program := "ytfbdaedoofkcbab", sum := "892204847d44bea2d1e7e2db6ca0e1347561b4bb6b38860fd9e0bc209bf7a56a", func := "loop.example/g01062/laws.FnExactIssuedBy", spec := "fnExactIssuedBy", unfollowed := true, recurses := true, apart := false }
def FnExactIssuedBySaid : Prop := fnExactIssuedByRow.holds Try.pinned (OpenSpec.ofChange fnExactIssuedBySpec)

/-- ITS FALSE NEIGHBOUR: 'it returns false'. Refute it at one input. -/
def fnExactIssuedByWrong : ChangeSpec := { name := "fnExactIssuedBy", fn := fun _ => fun
  | [d1, d2] => { results := [.lit (.bool false)], args := [d1, d2] }
  | _ => none }
def FnExactIssuedByWrongFalsely : Prop := fnExactIssuedByRow.holds Try.pinned (OpenSpec.ofChange fnExactIssuedByWrong)

/-- 'laws.FnExactCanFrank': WHATEVER THE INPUT: true; the input reads as it did. -/
def fnExactCanFrankSpec : ChangeSpec := { name := "fnExactCanFrank", fn := fun _ => fun
  | [d1, d2] => { results := [.lit (.bool true)], args := [d1, d2] }
  | _ => none }
def fnExactCanFrankRow : OpenClaim := { program := "ytfbdaedoofkcbab", sum := "892204847d44bea2d1e7e2db6ca0e1347561b4bb6b38860fd9e0bc209bf7a56a", func := "loop.example/g01062/laws.FnExactCanFrank", spec := "fnExactCanFrank", unfollowed := true, recurses := true, apart := false }
def FnExactCanFrankSaid : Prop := fnExactCanFrankRow.holds Try.pinned (OpenSpec.ofChange fnExactCanFrankSpec)

/-- ITS FALSE NEIGHBOUR: 'it returns false'. Refute it at one input. -/
def fnExactCanFrankWrong : ChangeSpec := { name := "fnExactCanFrank", fn := fun _ => fun
  | [d1, d2] => { results := [.lit (.bool false)], args := [d1, d2] }
  | _ => none }
def FnExactCanFrankWrongFalsely : Prop := fnExactCanFrankRow.holds Try.pinned (OpenSpec.ofChange fnExactCanFrankWrong)

/-- 'laws.FnExactIsPaper': WHATEVER THE INPUT: true; the input reads as it did. -/
def fnExactIsPaperSpec : ChangeSpec := { name := "fnExactIsPaper", fn := fun _ => fun
  | [d] => { results := [.lit (.bool true)], args := [d] }
  | _ => none }
def fnExactIsPaperRow : OpenClaim := { program := "ytfbdaedoofkcbab", sum := "892204847d44bea2d1e7e2db6ca0e1347561b4bb6b38860fd9e0bc209bf7a56a", func := "loop.example/g01062/laws.FnExactIsPaper", spec := "fnExactIsPaper", apart := false }
def FnExactIsPaperSaid : Prop := fnExactIsPaperRow.holds Try.pinned (OpenSpec.ofChange fnExactIsPaperSpec)

/-- ITS FALSE NEIGHBOUR: 'it returns false'. Refute it at one input. -/
def fnExactIsPaperWrong : ChangeSpec := { name := "fnExactIsPaper", fn := fun _ => fun
  | [d] => { results := [.lit (.bool false)], args := [d] }
  | _ => none }
def FnExactIsPaperWrongFalsely : Prop := fnExactIsPaperRow.holds Try.pinned (OpenSpec.ofChange fnExactIsPaperWrong)

/-- 'laws.FnExactArePapers': WHATEVER THE INPUT: true; the input reads as it did. -/
def fnExactArePapersSpec : ChangeSpec := { name := "fnExactArePapers", fn := fun _ => fun
  | [d] => { results := [.lit (.bool true)], args := [d] }
  | _ => none }
def fnExactArePapersRow : OpenClaim := { program := "ytfbdaedoofkcbab", sum := "892204847d44bea2d1e7e2db6ca0e1347561b4bb6b38860fd9e0bc209bf7a56a", func := "loop.example/g01062/laws.FnExactArePapers", spec := "fnExactArePapers", unfollowed := true, recurses := true, apart := false }
def FnExactArePapersSaid : Prop := fnExactArePapersRow.holds Try.pinned (OpenSpec.ofChange fnExactArePapersSpec)

/-- ITS FALSE NEIGHBOUR: 'it returns false'. Refute it at one input. -/
def fnExactArePapersWrong : ChangeSpec := { name := "fnExactArePapers", fn := fun _ => fun
  | [d] => { results := [.lit (.bool false)], args := [d] }
  | _ => none }
def FnExactArePapersWrongFalsely : Prop := fnExactArePapersRow.holds Try.pinned (OpenSpec.ofChange fnExactArePapersWrong)

/-- 'laws.FnExactNearestPaper': WHATEVER THE INPUT: true; the input reads as it did. -/
def fnExactNearestPaperSpec : ChangeSpec := { name := "fnExactNearestPaper", fn := fun _ => fun
  | [d1, d2] => { results := [.lit (.bool true)], args := [d1, d2] }
  | _ => none }
def fnExactNearestPaperRow : OpenClaim := { program := "ytfbdaedoofkcbab", sum := "892204847d44bea2d1e7e2db6ca0e1347561b4bb6b38860fd9e0bc209bf7a56a", func := "loop.example/g01062/laws.FnExactNearestPaper", spec := "fnExactNearestPaper", unfollowed := true, recurses := true, apart := false }
def FnExactNearestPaperSaid : Prop := fnExactNearestPaperRow.holds Try.pinned (OpenSpec.ofChange fnExactNearestPaperSpec)

/-- ITS FALSE NEIGHBOUR: 'it returns false'. Refute it at one input. -/
def fnExactNearestPaperWrong : ChangeSpec := { name := "fnExactNearestPaper", fn := fun _ => fun
  | [d1, d2] => { results := [.lit (.bool false)], args := [d1, d2] }
  | _ => none }
def FnExactNearestPaperWrongFalsely : Prop := fnExactNearestPaperRow.holds Try.pinned (OpenSpec.ofChange fnExactNearestPaperWrong)

/-- 'laws.FnExactMatchPapers': WHATEVER THE INPUT: true; the input reads as it did. -/
def fnExactMatchPapersSpec : ChangeSpec := { name := "fnExactMatchPapers", fn := fun _ => fun
  | [d1, d2, d3, d4] => { results := [.lit (.bool true)], args := [d1, d2, d3, d4] }
  | _ => none }
def fnExactMatchPapersRow : OpenClaim := { program := "ytfbdaedoofkcbab", sum := "892204847d44bea2d1e7e2db6ca0e1347561b4bb6b38860fd9e0bc209bf7a56a", func := "loop.example/g01062/laws.FnExactMatchPapers", spec := "fnExactMatchPapers", unfollowed := true, recurses := true, apart := false }
def FnExactMatchPapersSaid : Prop := fnExactMatchPapersRow.holds Try.pinned (OpenSpec.ofChange fnExactMatchPapersSpec)

/-- ITS FALSE NEIGHBOUR: 'it returns false'. Refute it at one input. -/
def fnExactMatchPapersWrong : ChangeSpec := { name := "fnExactMatchPapers", fn := fun _ => fun
  | [d1, d2, d3, d4] => { results := [.lit (.bool false)], args := [d1, d2, d3, d4] }
  | _ => none }
def FnExactMatchPapersWrongFalsely : Prop := fnExactMatchPapersRow.holds Try.pinned (OpenSpec.ofChange fnExactMatchPapersWrong)

/-- 'laws.FnExactPapersWith': WHATEVER THE INPUT: true; the input reads as it did. -/
def fnExactPapersWithSpec : ChangeSpec := { name := "fnExactPapersWith", fn := fun _ => fun
  | [d1, d2] => { results := [.lit (.bool true)], args := [d1, d2] }
  | _ => none }
def fnExactPapersWithRow : OpenClaim := { program := "ytfbdaedoofkcbab", sum := "892204847d44bea2d1e7e2db6ca0e1347561b4bb6b38860fd9e0bc209bf7a56a", func := "loop.example/g01062/laws.FnExactPapersWith", spec := "fnExactPapersWith", unfollowed := true, recurses := true, apart := false }
def FnExactPapersWithSaid : Prop := fnExactPapersWithRow.holds Try.pinned (OpenSpec.ofChange fnExactPapersWithSpec)

/-- ITS FALSE NEIGHBOUR: 'it returns false'. Refute it at one input. -/
def fnExactPapersWithWrong : ChangeSpec := { name := "fnExactPapersWith", fn := fun _ => fun
  | [d1, d2] => { results := [.lit (.bool false)], args := [d1, d2] }
  | _ => none }
def FnExactPapersWithWrongFalsely : Prop := fnExactPapersWithRow.holds Try.pinned (OpenSpec.ofChange fnExactPapersWithWrong)

/-- 'laws.FnExactFewestStamps': WHATEVER THE INPUT: true; the input reads as it did. -/
def fnExactFewestStampsSpec : ChangeSpec := { name := "fnExactFewestStamps", fn := fun _ => fun
  | [d1, d2, d3] => { results := [.lit (.bool true)], args := [d1, d2, d3] }
  | _ => none }
def fnExactFewestStampsRow : OpenClaim := { program := "ytfbdaedoofkcbab", sum := "892204847d44bea2d1e7e2db6ca0e1347561b4bb6b38860fd9e0bc209bf7a56a", func := "loop.example/g01062/laws.FnExactFewestStamps", spec := "fnExactFewestStamps", unfollowed := true, recurses := true, apart := false }
def FnExactFewestStampsSaid : Prop := fnExactFewestStampsRow.holds Try.pinned (OpenSpec.ofChange fnExactFewestStampsSpec)

/-- ITS FALSE NEIGHBOUR: 'it returns false'. Refute it at one input. -/
def fnExactFewestStampsWrong : ChangeSpec := { name := "fnExactFewestStamps", fn := fun _ => fun
  | [d1, d2, d3] => { results := [.lit (.bool false)], args := [d1, d2, d3] }
  | _ => none }
def FnExactFewestStampsWrongFalsely : Prop := fnExactFewestStampsRow.holds Try.pinned (OpenSpec.ofChange fnExactFewestStampsWrong)

/- THE SECOND FORM. 'bulk': how many values and letters a reading holds, each counted each time it is reached (what is shared counts as often as it is met; a slice's spare places count too). A statement '..UptoSaid' is the law's where the arguments, and the package variables that the reading takes, are together of bulk at most 1048576: NARROWER than '..Said'. Prove '..Said' where nothing that the law and all that it calls make is longer than what came in: it says more and counts as full. Else prove '..UptoSaid'. A law counts once. -/
mutual
def uptoBulk {H : Type} : DataW H → Nat
  | .lit (.string bytes) => bytes.length + 1
  | .lit _ => 1
  | .nil => 1
  | .ptr d => uptoBulk d + 1
  | .slice elems spare => uptoBulkAll elems + uptoBulkAll spare + 1
  | .agg parts => uptoBulkAll parts + 1
  | .iface _ d => uptoBulk d + 1
  | .map entries => uptoBulkEntries entries + 1
  | .held _ => 1
def uptoBulkAll {H : Type} : List (DataW H) → Nat
  | [] => 0
  | d :: r => uptoBulk d + uptoBulkAll r
def uptoBulkEntries {H : Type} : List (Lit × DataW H) → Nat
  | [] => 0
  | x :: r => uptoBulkEntry x + uptoBulkEntries r
def uptoBulkEntry {H : Type} : Lit × DataW H → Nat
  | (.string bytes, d) => bytes.length + uptoBulk d + 1
  | (_, d) => uptoBulk d + 1
 end
def uptoSmall : (H : Type) → List (DataW H) → Bool := fun _ ds => decide (uptoBulkAll ds ≤ 1048576)
def OpenSpec.upto (s : _root_.Go.ChangeSpec) : _root_.Go.OpenSpec := { _root_.Go.OpenSpec.ofChange s with cond := some uptoSmall }

/-- 'laws.FnExactAreStamps', WHERE WHAT IT READS IS OF BULK AT MOST 1048576: true; the input reads as it did. -/
def fnExactAreStampsUptoRow : OpenClaim := { program := "ytfbdaedoofkcbab", sum := "892204847d44bea2d1e7e2db6ca0e1347561b4bb6b38860fd9e0bc209bf7a56a", func := "loop.example/g01062/laws.FnExactAreStamps", spec := "fnExactAreStamps", unfollowed := true, recurses := true, apart := false, narrowed := true }
def FnExactAreStampsUptoSaid : Prop := fnExactAreStampsUptoRow.holds Try.pinned (OpenSpec.upto fnExactAreStampsSpec)

/-- 'laws.FnExactValueOf', WHERE WHAT IT READS IS OF BULK AT MOST 1048576: true; the input reads as it did. -/
def fnExactValueOfUptoRow : OpenClaim := { program := "ytfbdaedoofkcbab", sum := "892204847d44bea2d1e7e2db6ca0e1347561b4bb6b38860fd9e0bc209bf7a56a", func := "loop.example/g01062/laws.FnExactValueOf", spec := "fnExactValueOf", unfollowed := true, recurses := true, apart := false, narrowed := true }
def FnExactValueOfUptoSaid : Prop := fnExactValueOfUptoRow.holds Try.pinned (OpenSpec.upto fnExactValueOfSpec)

/-- 'laws.FnExactIssuedBy', WHERE WHAT IT READS IS OF BULK AT MOST 1048576: true; the input reads as it did. -/
def fnExactIssuedByUptoRow : OpenClaim := { program := "ytfbdaedoofkcbab", sum := "892204847d44bea2d1e7e2db6ca0e1347561b4bb6b38860fd9e0bc209bf7a56a", func := "loop.example/g01062/laws.FnExactIssuedBy", spec := "fnExactIssuedBy", unfollowed := true, recurses := true, apart := false, narrowed := true }
def FnExactIssuedByUptoSaid : Prop := fnExactIssuedByUptoRow.holds Try.pinned (OpenSpec.upto fnExactIssuedBySpec)

/-- 'laws.FnExactCanFrank', WHERE WHAT IT READS IS OF BULK AT MOST 1048576: true; the input reads as it did. -/
def fnExactCanFrankUptoRow : OpenClaim := { program := "ytfbdaedoofkcbab", sum := "892204847d44bea2d1e7e2db6ca0e1347561b4bb6b38860fd9e0bc209bf7a56a", func := "loop.example/g01062/laws.FnExactCanFrank", spec := "fnExactCanFrank", unfollowed := true, recurses := true, apart := false, narrowed := true }
def FnExactCanFrankUptoSaid : Prop := fnExactCanFrankUptoRow.holds Try.pinned (OpenSpec.upto fnExactCanFrankSpec)

/-- 'laws.FnExactIsPaper', WHERE WHAT IT READS IS OF BULK AT MOST 1048576: true; the input reads as it did. -/
def fnExactIsPaperUptoRow : OpenClaim := { program := "ytfbdaedoofkcbab", sum := "892204847d44bea2d1e7e2db6ca0e1347561b4bb6b38860fd9e0bc209bf7a56a", func := "loop.example/g01062/laws.FnExactIsPaper", spec := "fnExactIsPaper", apart := false, narrowed := true }
def FnExactIsPaperUptoSaid : Prop := fnExactIsPaperUptoRow.holds Try.pinned (OpenSpec.upto fnExactIsPaperSpec)

/-- 'laws.FnExactArePapers', WHERE WHAT IT READS IS OF BULK AT MOST 1048576: true; the input reads as it did. -/
def fnExactArePapersUptoRow : OpenClaim := { program := "ytfbdaedoofkcbab", sum := "892204847d44bea2d1e7e2db6ca0e1347561b4bb6b38860fd9e0bc209bf7a56a", func := "loop.example/g01062/laws.FnExactArePapers", spec := "fnExactArePapers", unfollowed := true, recurses := true, apart := false, narrowed := true }
def FnExactArePapersUptoSaid : Prop := fnExactArePapersUptoRow.holds Try.pinned (OpenSpec.upto fnExactArePapersSpec)

/-- 'laws.FnExactNearestPaper', WHERE WHAT IT READS IS OF BULK AT MOST 1048576: true; the input reads as it did. -/
def fnExactNearestPaperUptoRow : OpenClaim := { program := "ytfbdaedoofkcbab", sum := "892204847d44bea2d1e7e2db6ca0e1347561b4bb6b38860fd9e0bc209bf7a56a", func := "loop.example/g01062/laws.FnExactNearestPaper", spec := "fnExactNearestPaper", unfollowed := true, recurses := true, apart := false, narrowed := true }
def FnExactNearestPaperUptoSaid : Prop := fnExactNearestPaperUptoRow.holds Try.pinned (OpenSpec.upto fnExactNearestPaperSpec)

/-- 'laws.FnExactMatchPapers', WHERE WHAT IT READS IS OF BULK AT MOST 1048576: true; the input reads as it did. -/
def fnExactMatchPapersUptoRow : OpenClaim := { program := "ytfbdaedoofkcbab", sum := "892204847d44bea2d1e7e2db6ca0e1347561b4bb6b38860fd9e0bc209bf7a56a", func := "loop.example/g01062/laws.FnExactMatchPapers", spec := "fnExactMatchPapers", unfollowed := true, recurses := true, apart := false, narrowed := true }
def FnExactMatchPapersUptoSaid : Prop := fnExactMatchPapersUptoRow.holds Try.pinned (OpenSpec.upto fnExactMatchPapersSpec)

/-- 'laws.FnExactPapersWith', WHERE WHAT IT READS IS OF BULK AT MOST 1048576: true; the input reads as it did. -/
def fnExactPapersWithUptoRow : OpenClaim := { program := "ytfbdaedoofkcbab", sum := "892204847d44bea2d1e7e2db6ca0e1347561b4bb6b38860fd9e0bc209bf7a56a", func := "loop.example/g01062/laws.FnExactPapersWith", spec := "fnExactPapersWith", unfollowed := true, recurses := true, apart := false, narrowed := true }
def FnExactPapersWithUptoSaid : Prop := fnExactPapersWithUptoRow.holds Try.pinned (OpenSpec.upto fnExactPapersWithSpec)

/-- 'laws.FnExactFewestStamps', WHERE WHAT IT READS IS OF BULK AT MOST 1048576: true; the input reads as it did. -/
def fnExactFewestStampsUptoRow : OpenClaim := { program := "ytfbdaedoofkcbab", sum := "892204847d44bea2d1e7e2db6ca0e1347561b4bb6b38860fd9e0bc209bf7a56a", func := "loop.example/g01062/laws.FnExactFewestStamps", spec := "fnExactFewestStamps", unfollowed := true, recurses := true, apart := false, narrowed := true }
def FnExactFewestStampsUptoSaid : Prop := fnExactFewestStampsUptoRow.holds Try.pinned (OpenSpec.upto fnExactFewestStampsSpec)

end Rows
end Go.Proofs.Ytfbdaedoofkcbab
