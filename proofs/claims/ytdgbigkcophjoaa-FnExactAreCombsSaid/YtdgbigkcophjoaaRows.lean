/-
  No cell of these rows narrows 'for every input' (looked for: loops, veiled, ifaces, maps, wideKeys, modest, calm, conditions, laid).
  DERIVED. THE GIVEN ROWS OF THIS SEAT. 13 by the template 'for every input the law returns true; each argument reads behind the call as it read before'; 0 by the template 'total and deterministic' (their statements: YtdgbigkcophjoaaTotals.lean).
  GIVEN WITH THE SEED: the statements are not yours to turn. If you find one false, say at which input.
  Laid BY PROGRAM, IN A SANDBOX (cutbox-rows.mjs): the forced cells as the released guide's own fill.sh prints them over the translation 6e667ee7f26d5abf… (all of the seat's roots in one cut). By AI agents, Wed Nov 11 2026. No macro, syntax, notation, axiom, sorry.
-/
import Derived.Test.YtdgbigkcophjoaaChecked
import GoSem.Claim
import GoSem.ClaimJoined
import GoSem.ClaimMapViews
import Derived.JoinedTies
import Derived.KernelRfl
namespace Go.Proofs.Ytdgbigkcophjoaa
/- THE CELL 'sum', in the pinned program and in every row, IS THE sha256 OF THE DUMP (.gsa) THAT YtdgbigkcophjoaaProg.lean LOADS. Nothing in Lean hashes anything: it is a label: what it is worth is what the hold of that sum in a sandbox is worth. -/
noncomputable def Try.pinned : Pinned := { name := "ytdgbigkcophjoaa", sum := "6e667ee7f26d5abf660c9d38f54c0a534e57adb599038f047f03812a676fd22f", checked := Try.checked }
namespace Rows
def none {H : Type} : Left H := { results := [], args := [] }

/-- 'laws.FnExactAreStamps': WHATEVER THE INPUT: true; the input reads as it did. -/
def fnExactAreStampsSpec : ChangeSpec := { name := "fnExactAreStamps", fn := fun _ => fun
  | [d] => { results := [.lit (.bool true)], args := [d] }
  | _ => none }
def fnExactAreStampsRow : OpenClaim := { program := "ytdgbigkcophjoaa", sum := "6e667ee7f26d5abf660c9d38f54c0a534e57adb599038f047f03812a676fd22f", func := "loop.example/g01062/laws.FnExactAreStamps", spec := "fnExactAreStamps", unfollowed := true, recurses := true, apart := false }
def FnExactAreStampsSaid : Prop := fnExactAreStampsRow.holds Try.pinned (OpenSpec.ofChange fnExactAreStampsSpec)

/-- ITS FALSE NEIGHBOUR: 'it returns false'. Refute it at one input. -/
def fnExactAreStampsWrong : ChangeSpec := { name := "fnExactAreStamps", fn := fun _ => fun
  | [d] => { results := [.lit (.bool false)], args := [d] }
  | _ => none }
def FnExactAreStampsWrongFalsely : Prop := fnExactAreStampsRow.holds Try.pinned (OpenSpec.ofChange fnExactAreStampsWrong)

/-- 'laws.FnExactFewestStamps': WHATEVER THE INPUT: true; the input reads as it did. -/
def fnExactFewestStampsSpec : ChangeSpec := { name := "fnExactFewestStamps", fn := fun _ => fun
  | [d1, d2, d3] => { results := [.lit (.bool true)], args := [d1, d2, d3] }
  | _ => none }
def fnExactFewestStampsRow : OpenClaim := { program := "ytdgbigkcophjoaa", sum := "6e667ee7f26d5abf660c9d38f54c0a534e57adb599038f047f03812a676fd22f", func := "loop.example/g01062/laws.FnExactFewestStamps", spec := "fnExactFewestStamps", unfollowed := true, recurses := true, apart := false }
def FnExactFewestStampsSaid : Prop := fnExactFewestStampsRow.holds Try.pinned (OpenSpec.ofChange fnExactFewestStampsSpec)

/-- ITS FALSE NEIGHBOUR: 'it returns false'. Refute it at one input. -/
def fnExactFewestStampsWrong : ChangeSpec := { name := "fnExactFewestStamps", fn := fun _ => fun
  | [d1, d2, d3] => { results := [.lit (.bool false)], args := [d1, d2, d3] }
  | _ => none }
def FnExactFewestStampsWrongFalsely : Prop := fnExactFewestStampsRow.holds Try.pinned (OpenSpec.ofChange fnExactFewestStampsWrong)

/-- 'laws.FnExactValueOf': WHATEVER THE INPUT: true; the input reads as it did. -/
def fnExactValueOfSpec : ChangeSpec := { name := "fnExactValueOf", fn := fun _ => fun
  | [d1, d2] => { results := [.lit (.bool true)], args := [d1, d2] }
  | _ => none }
def fnExactValueOfRow : OpenClaim := { program := "ytdgbigkcophjoaa", sum := "6e667ee7f26d5abf660c9d38f54c0a534e57adb599038f047f03812a676fd22f", func := "loop.example/g01062/laws.FnExactValueOf", spec := "fnExactValueOf", unfollowed := true, recurses := true, apart := false }
def FnExactValueOfSaid : Prop := fnExactValueOfRow.holds Try.pinned (OpenSpec.ofChange fnExactValueOfSpec)

/-- ITS FALSE NEIGHBOUR: 'it returns false'. Refute it at one input. -/
def fnExactValueOfWrong : ChangeSpec := { name := "fnExactValueOf", fn := fun _ => fun
  | [d1, d2] => { results := [.lit (.bool false)], args := [d1, d2] }
  | _ => none }
def FnExactValueOfWrongFalsely : Prop := fnExactValueOfRow.holds Try.pinned (OpenSpec.ofChange fnExactValueOfWrong)

/-- 'laws.FnExactCanFrank': WHATEVER THE INPUT: true; the input reads as it did. -/
def fnExactCanFrankSpec : ChangeSpec := { name := "fnExactCanFrank", fn := fun _ => fun
  | [d1, d2] => { results := [.lit (.bool true)], args := [d1, d2] }
  | _ => none }
def fnExactCanFrankRow : OpenClaim := { program := "ytdgbigkcophjoaa", sum := "6e667ee7f26d5abf660c9d38f54c0a534e57adb599038f047f03812a676fd22f", func := "loop.example/g01062/laws.FnExactCanFrank", spec := "fnExactCanFrank", unfollowed := true, recurses := true, apart := false }
def FnExactCanFrankSaid : Prop := fnExactCanFrankRow.holds Try.pinned (OpenSpec.ofChange fnExactCanFrankSpec)

/-- ITS FALSE NEIGHBOUR: 'it returns false'. Refute it at one input. -/
def fnExactCanFrankWrong : ChangeSpec := { name := "fnExactCanFrank", fn := fun _ => fun
  | [d1, d2] => { results := [.lit (.bool false)], args := [d1, d2] }
  | _ => none }
def FnExactCanFrankWrongFalsely : Prop := fnExactCanFrankRow.holds Try.pinned (OpenSpec.ofChange fnExactCanFrankWrong)

/-- 'laws.FnExactIssuedBy': WHATEVER THE INPUT: true; the input reads as it did. -/
def fnExactIssuedBySpec : ChangeSpec := { name := "fnExactIssuedBy", fn := fun _ => fun
  | [d1, d2] => { results := [.lit (.bool true)], args := [d1, d2] }
  | _ => none }
def fnExactIssuedByRow : OpenClaim := { program := "ytdgbigkcophjoaa", sum := "6e667ee7f26d5abf660c9d38f54c0a534e57adb599038f047f03812a676fd22f", func := "loop.example/g01062/laws.FnExactIssuedBy", spec := "fnExactIssuedBy", unfollowed := true, recurses := true, apart := false }
def FnExactIssuedBySaid : Prop := fnExactIssuedByRow.holds Try.pinned (OpenSpec.ofChange fnExactIssuedBySpec)

/-- ITS FALSE NEIGHBOUR: 'it returns false'. Refute it at one input. -/
def fnExactIssuedByWrong : ChangeSpec := { name := "fnExactIssuedBy", fn := fun _ => fun
  | [d1, d2] => { results := [.lit (.bool false)], args := [d1, d2] }
  | _ => none }
def FnExactIssuedByWrongFalsely : Prop := fnExactIssuedByRow.holds Try.pinned (OpenSpec.ofChange fnExactIssuedByWrong)

/-- 'laws.FnExactArePapers': WHATEVER THE INPUT: true; the input reads as it did. -/
def fnExactArePapersSpec : ChangeSpec := { name := "fnExactArePapers", fn := fun _ => fun
  | [d] => { results := [.lit (.bool true)], args := [d] }
  | _ => none }
def fnExactArePapersRow : OpenClaim := { program := "ytdgbigkcophjoaa", sum := "6e667ee7f26d5abf660c9d38f54c0a534e57adb599038f047f03812a676fd22f", func := "loop.example/g01062/laws.FnExactArePapers", spec := "fnExactArePapers", unfollowed := true, recurses := true, apart := false }
def FnExactArePapersSaid : Prop := fnExactArePapersRow.holds Try.pinned (OpenSpec.ofChange fnExactArePapersSpec)

/-- ITS FALSE NEIGHBOUR: 'it returns false'. Refute it at one input. -/
def fnExactArePapersWrong : ChangeSpec := { name := "fnExactArePapers", fn := fun _ => fun
  | [d] => { results := [.lit (.bool false)], args := [d] }
  | _ => none }
def FnExactArePapersWrongFalsely : Prop := fnExactArePapersRow.holds Try.pinned (OpenSpec.ofChange fnExactArePapersWrong)

/-- 'laws.FnExactNearestPaper': WHATEVER THE INPUT: true; the input reads as it did. -/
def fnExactNearestPaperSpec : ChangeSpec := { name := "fnExactNearestPaper", fn := fun _ => fun
  | [d1, d2] => { results := [.lit (.bool true)], args := [d1, d2] }
  | _ => none }
def fnExactNearestPaperRow : OpenClaim := { program := "ytdgbigkcophjoaa", sum := "6e667ee7f26d5abf660c9d38f54c0a534e57adb599038f047f03812a676fd22f", func := "loop.example/g01062/laws.FnExactNearestPaper", spec := "fnExactNearestPaper", unfollowed := true, recurses := true, apart := false }
def FnExactNearestPaperSaid : Prop := fnExactNearestPaperRow.holds Try.pinned (OpenSpec.ofChange fnExactNearestPaperSpec)

/-- ITS FALSE NEIGHBOUR: 'it returns false'. Refute it at one input. -/
def fnExactNearestPaperWrong : ChangeSpec := { name := "fnExactNearestPaper", fn := fun _ => fun
  | [d1, d2] => { results := [.lit (.bool false)], args := [d1, d2] }
  | _ => none }
def FnExactNearestPaperWrongFalsely : Prop := fnExactNearestPaperRow.holds Try.pinned (OpenSpec.ofChange fnExactNearestPaperWrong)

/-- 'laws.FnExactMatchPapers': WHATEVER THE INPUT: true; the input reads as it did. -/
def fnExactMatchPapersSpec : ChangeSpec := { name := "fnExactMatchPapers", fn := fun _ => fun
  | [d1, d2, d3, d4] => { results := [.lit (.bool true)], args := [d1, d2, d3, d4] }
  | _ => none }
def fnExactMatchPapersRow : OpenClaim := { program := "ytdgbigkcophjoaa", sum := "6e667ee7f26d5abf660c9d38f54c0a534e57adb599038f047f03812a676fd22f", func := "loop.example/g01062/laws.FnExactMatchPapers", spec := "fnExactMatchPapers", unfollowed := true, recurses := true, apart := false }
def FnExactMatchPapersSaid : Prop := fnExactMatchPapersRow.holds Try.pinned (OpenSpec.ofChange fnExactMatchPapersSpec)

/-- ITS FALSE NEIGHBOUR: 'it returns false'. Refute it at one input. -/
def fnExactMatchPapersWrong : ChangeSpec := { name := "fnExactMatchPapers", fn := fun _ => fun
  | [d1, d2, d3, d4] => { results := [.lit (.bool false)], args := [d1, d2, d3, d4] }
  | _ => none }
def FnExactMatchPapersWrongFalsely : Prop := fnExactMatchPapersRow.holds Try.pinned (OpenSpec.ofChange fnExactMatchPapersWrong)

/-- 'laws.FnExactPapersWith': WHATEVER THE INPUT: true; the input reads as it did. -/
def fnExactPapersWithSpec : ChangeSpec := { name := "fnExactPapersWith", fn := fun _ => fun
  | [d1, d2] => { results := [.lit (.bool true)], args := [d1, d2] }
  | _ => none }
def fnExactPapersWithRow : OpenClaim := { program := "ytdgbigkcophjoaa", sum := "6e667ee7f26d5abf660c9d38f54c0a534e57adb599038f047f03812a676fd22f", func := "loop.example/g01062/laws.FnExactPapersWith", spec := "fnExactPapersWith", unfollowed := true, recurses := true, apart := false }
def FnExactPapersWithSaid : Prop := fnExactPapersWithRow.holds Try.pinned (OpenSpec.ofChange fnExactPapersWithSpec)

/-- ITS FALSE NEIGHBOUR: 'it returns false'. Refute it at one input. -/
def fnExactPapersWithWrong : ChangeSpec := { name := "fnExactPapersWith", fn := fun _ => fun
  | [d1, d2] => { results := [.lit (.bool false)], args := [d1, d2] }
  | _ => none }
def FnExactPapersWithWrongFalsely : Prop := fnExactPapersWithRow.holds Try.pinned (OpenSpec.ofChange fnExactPapersWithWrong)

/-- 'laws.FnExactAreCombs': WHATEVER THE INPUT: true; the input reads as it did. -/
def fnExactAreCombsSpec : ChangeSpec := { name := "fnExactAreCombs", fn := fun _ => fun
  | [d] => { results := [.lit (.bool true)], args := [d] }
  | _ => none }
def fnExactAreCombsRow : OpenClaim := { program := "ytdgbigkcophjoaa", sum := "6e667ee7f26d5abf660c9d38f54c0a534e57adb599038f047f03812a676fd22f", func := "loop.example/g01062/laws.FnExactAreCombs", spec := "fnExactAreCombs", unfollowed := true, recurses := true, apart := false }
def FnExactAreCombsSaid : Prop := fnExactAreCombsRow.holds Try.pinned (OpenSpec.ofChange fnExactAreCombsSpec)

/-- ITS FALSE NEIGHBOUR: 'it returns false'. Refute it at one input. -/
def fnExactAreCombsWrong : ChangeSpec := { name := "fnExactAreCombs", fn := fun _ => fun
  | [d] => { results := [.lit (.bool false)], args := [d] }
  | _ => none }
def FnExactAreCombsWrongFalsely : Prop := fnExactAreCombsRow.holds Try.pinned (OpenSpec.ofChange fnExactAreCombsWrong)

/-- 'laws.FnExactMatchCombs': WHATEVER THE INPUT: true; the input reads as it did. -/
def fnExactMatchCombsSpec : ChangeSpec := { name := "fnExactMatchCombs", fn := fun _ => fun
  | [d1, d2, d3, d4] => { results := [.lit (.bool true)], args := [d1, d2, d3, d4] }
  | _ => none }
def fnExactMatchCombsRow : OpenClaim := { program := "ytdgbigkcophjoaa", sum := "6e667ee7f26d5abf660c9d38f54c0a534e57adb599038f047f03812a676fd22f", func := "loop.example/g01062/laws.FnExactMatchCombs", spec := "fnExactMatchCombs", unfollowed := true, recurses := true, apart := false }
def FnExactMatchCombsSaid : Prop := fnExactMatchCombsRow.holds Try.pinned (OpenSpec.ofChange fnExactMatchCombsSpec)

/-- ITS FALSE NEIGHBOUR: 'it returns false'. Refute it at one input. -/
def fnExactMatchCombsWrong : ChangeSpec := { name := "fnExactMatchCombs", fn := fun _ => fun
  | [d1, d2, d3, d4] => { results := [.lit (.bool false)], args := [d1, d2, d3, d4] }
  | _ => none }
def FnExactMatchCombsWrongFalsely : Prop := fnExactMatchCombsRow.holds Try.pinned (OpenSpec.ofChange fnExactMatchCombsWrong)

/-- 'laws.FnExactTurnedCombs': WHATEVER THE INPUT: true; the input reads as it did. -/
def fnExactTurnedCombsSpec : ChangeSpec := { name := "fnExactTurnedCombs", fn := fun _ => fun
  | [d1, d2, d3, d4] => { results := [.lit (.bool true)], args := [d1, d2, d3, d4] }
  | _ => none }
def fnExactTurnedCombsRow : OpenClaim := { program := "ytdgbigkcophjoaa", sum := "6e667ee7f26d5abf660c9d38f54c0a534e57adb599038f047f03812a676fd22f", func := "loop.example/g01062/laws.FnExactTurnedCombs", spec := "fnExactTurnedCombs", unfollowed := true, recurses := true, apart := false }
def FnExactTurnedCombsSaid : Prop := fnExactTurnedCombsRow.holds Try.pinned (OpenSpec.ofChange fnExactTurnedCombsSpec)

/-- ITS FALSE NEIGHBOUR: 'it returns false'. Refute it at one input. -/
def fnExactTurnedCombsWrong : ChangeSpec := { name := "fnExactTurnedCombs", fn := fun _ => fun
  | [d1, d2, d3, d4] => { results := [.lit (.bool false)], args := [d1, d2, d3, d4] }
  | _ => none }
def FnExactTurnedCombsWrongFalsely : Prop := fnExactTurnedCombsRow.holds Try.pinned (OpenSpec.ofChange fnExactTurnedCombsWrong)

/-- 'laws.FnExactSameGauges': WHATEVER THE INPUT: true; the input reads as it did. -/
def fnExactSameGaugesSpec : ChangeSpec := { name := "fnExactSameGauges", fn := fun _ => fun
  | [d] => { results := [.lit (.bool true)], args := [d] }
  | _ => none }
def fnExactSameGaugesRow : OpenClaim := { program := "ytdgbigkcophjoaa", sum := "6e667ee7f26d5abf660c9d38f54c0a534e57adb599038f047f03812a676fd22f", func := "loop.example/g01062/laws.FnExactSameGauges", spec := "fnExactSameGauges", unfollowed := true, recurses := true, apart := false }
def FnExactSameGaugesSaid : Prop := fnExactSameGaugesRow.holds Try.pinned (OpenSpec.ofChange fnExactSameGaugesSpec)

/-- ITS FALSE NEIGHBOUR: 'it returns false'. Refute it at one input. -/
def fnExactSameGaugesWrong : ChangeSpec := { name := "fnExactSameGauges", fn := fun _ => fun
  | [d] => { results := [.lit (.bool false)], args := [d] }
  | _ => none }
def FnExactSameGaugesWrongFalsely : Prop := fnExactSameGaugesRow.holds Try.pinned (OpenSpec.ofChange fnExactSameGaugesWrong)

/- THE SECOND FORM. 'bulk': how many values and letters a reading holds, each counted each time it is reached (what is shared counts as often as it is met; a slice's spare places count too). A statement '..UptoSaid' is the law's where the arguments, and the package variables that the reading takes, are together of bulk at most 1048576: NARROWER than '..Said'. Prove '..Said' where nothing that the law and all that it calls make is longer than what came in: it says more and counts as full. Else prove '..UptoSaid'. A law counts once. -/
mutual
def uptoBulk {H : Type} : DataW H → Nat
  | .lit (.string bytes) => bytes.length + 1
  | .lit _ => 1
  | .nil => 1
  | .ptr d => uptoBulk d + 1
  | .slice elems spare => uptoBulkAll elems + uptoBulkAll spare + 1
  | .agg parts => uptoBulkAll parts + 1
  | .iface _ d => uptoBulk d + 1
  | .map entries => uptoBulkEntries entries + 1
  | .held _ => 1
def uptoBulkAll {H : Type} : List (DataW H) → Nat
  | [] => 0
  | d :: r => uptoBulk d + uptoBulkAll r
def uptoBulkEntries {H : Type} : List (Lit × DataW H) → Nat
  | [] => 0
  | x :: r => uptoBulkEntry x + uptoBulkEntries r
def uptoBulkEntry {H : Type} : Lit × DataW H → Nat
  | (.string bytes, d) => bytes.length + uptoBulk d + 1
  | (_, d) => uptoBulk d + 1
 end
def uptoSmall : (H : Type) → List (DataW H) → Bool := fun _ ds => decide (uptoBulkAll ds ≤ 1048576)
def OpenSpec.upto (s : _root_.Go.ChangeSpec) : _root_.Go.OpenSpec := { _root_.Go.OpenSpec.ofChange s with cond := some uptoSmall }

/-- 'laws.FnExactAreStamps', WHERE WHAT IT READS IS OF BULK AT MOST 1048576: true; the input reads as it did. -/
def fnExactAreStampsUptoRow : OpenClaim := { program := "ytdgbigkcophjoaa", sum := "6e667ee7f26d5abf660c9d38f54c0a534e57adb599038f047f03812a676fd22f", func := "loop.example/g01062/laws.FnExactAreStamps", spec := "fnExactAreStamps", unfollowed := true, recurses := true, apart := false, narrowed := true }
def FnExactAreStampsUptoSaid : Prop := fnExactAreStampsUptoRow.holds Try.pinned (OpenSpec.upto fnExactAreStampsSpec)

/-- 'laws.FnExactFewestStamps', WHERE WHAT IT READS IS OF BULK AT MOST 1048576: true; the input reads as it did. -/
def fnExactFewestStampsUptoRow : OpenClaim := { program := "ytdgbigkcophjoaa", sum := "6e667ee7f26d5abf660c9d38f54c0a534e57adb599038f047f03812a676fd22f", func := "loop.example/g01062/laws.FnExactFewestStamps", spec := "fnExactFewestStamps", unfollowed := true, recurses := true, apart := false, narrowed := true }
def FnExactFewestStampsUptoSaid : Prop := fnExactFewestStampsUptoRow.holds Try.pinned (OpenSpec.upto fnExactFewestStampsSpec)

/-- 'laws.FnExactValueOf', WHERE WHAT IT READS IS OF BULK AT MOST 1048576: true; the input reads as it did. -/
def fnExactValueOfUptoRow : OpenClaim := { program := "ytdgbigkcophjoaa", sum := "6e667ee7f26d5abf660c9d38f54c0a534e57adb599038f047f03812a676fd22f", func := "loop.example/g01062/laws.FnExactValueOf", spec := "fnExactValueOf", unfollowed := true, recurses := true, apart := false, narrowed := true }
def FnExactValueOfUptoSaid : Prop := fnExactValueOfUptoRow.holds Try.pinned (OpenSpec.upto fnExactValueOfSpec)

/-- 'laws.FnExactCanFrank', WHERE WHAT IT READS IS OF BULK AT MOST 1048576: true; the input reads as it did. -/
def fnExactCanFrankUptoRow : OpenClaim := { program := "ytdgbigkcophjoaa", sum := "6e667ee7f26d5abf660c9d38f54c0a534e57adb599038f047f03812a676fd22f", func := "loop.example/g01062/laws.FnExactCanFrank", spec := "fnExactCanFrank", unfollowed := true, recurses := true, apart := false, narrowed := true }
def FnExactCanFrankUptoSaid : Prop := fnExactCanFrankUptoRow.holds Try.pinned (OpenSpec.upto fnExactCanFrankSpec)

/-- 'laws.FnExactIssuedBy', WHERE WHAT IT READS IS OF BULK AT MOST 1048576: true; the input reads as it did. -/
def fnExactIssuedByUptoRow : OpenClaim := { program := "ytdgbigkcophjoaa", sum := "6e667ee7f26d5abf660c9d38f54c0a534e57adb599038f047f03812a676fd22f", func := "loop.example/g01062/laws.FnExactIssuedBy", spec := "fnExactIssuedBy", unfollowed := true, recurses := true, apart := false, narrowed := true }
def FnExactIssuedByUptoSaid : Prop := fnExactIssuedByUptoRow.holds Try.pinned (OpenSpec.upto fnExactIssuedBySpec)

/-- 'laws.FnExactArePapers', WHERE WHAT IT READS IS OF BULK AT MOST 1048576: true; the input reads as it did. -/
def fnExactArePapersUptoRow : OpenClaim := { program := "ytdgbigkcophjoaa", sum := "6e667ee7f26d5abf660c9d38f54c0a534e57adb599038f047f03812a676fd22f", func := "loop.example/g01062/laws.FnExactArePapers", spec := "fnExactArePapers", unfollowed := true, recurses := true, apart := false, narrowed := true }
def FnExactArePapersUptoSaid : Prop := fnExactArePapersUptoRow.holds Try.pinned (OpenSpec.upto fnExactArePapersSpec)

/-- 'laws.FnExactNearestPaper', WHERE WHAT IT READS IS OF BULK AT MOST 1048576: true; the input reads as it did. -/
def fnExactNearestPaperUptoRow : OpenClaim := { program := "ytdgbigkcophjoaa", sum := "6e667ee7f26d5abf660c9d38f54c0a534e57adb599038f047f03812a676fd22f", func := "loop.example/g01062/laws.FnExactNearestPaper", spec := "fnExactNearestPaper", unfollowed := true, recurses := true, apart := false, narrowed := true }
def FnExactNearestPaperUptoSaid : Prop := fnExactNearestPaperUptoRow.holds Try.pinned (OpenSpec.upto fnExactNearestPaperSpec)

/-- 'laws.FnExactMatchPapers', WHERE WHAT IT READS IS OF BULK AT MOST 1048576: true; the input reads as it did. -/
def fnExactMatchPapersUptoRow : OpenClaim := { program := "ytdgbigkcophjoaa", sum := "6e667ee7f26d5abf660c9d38f54c0a534e57adb599038f047f03812a676fd22f", func := "loop.example/g01062/laws.FnExactMatchPapers", spec := "fnExactMatchPapers", unfollowed := true, recurses := true, apart := false, narrowed := true }
def FnExactMatchPapersUptoSaid : Prop := fnExactMatchPapersUptoRow.holds Try.pinned (OpenSpec.upto fnExactMatchPapersSpec)

/-- 'laws.FnExactPapersWith', WHERE WHAT IT READS IS OF BULK AT MOST 1048576: true; the input reads as it did. -/
def fnExactPapersWithUptoRow : OpenClaim := { program := "ytdgbigkcophjoaa", sum := "6e667ee7f26d5abf660c9d38f54c0a534e57adb599038f047f03812a676fd22f", func := "loop.example/g01062/laws.FnExactPapersWith", spec := "fnExactPapersWith", unfollowed := true, recurses := true, apart := false, narrowed := true }
def FnExactPapersWithUptoSaid : Prop := fnExactPapersWithUptoRow.holds Try.pinned (OpenSpec.upto fnExactPapersWithSpec)

/-- 'laws.FnExactAreCombs', WHERE WHAT IT READS IS OF BULK AT MOST 1048576: true; the input reads as it did. -/
def fnExactAreCombsUptoRow : OpenClaim := { program := "ytdgbigkcophjoaa", sum := "6e667ee7f26d5abf660c9d38f54c0a534e57adb599038f047f03812a676fd22f", func := "loop.example/g01062/laws.FnExactAreCombs", spec := "fnExactAreCombs", unfollowed := true, recurses := true, apart := false, narrowed := true }
def FnExactAreCombsUptoSaid : Prop := fnExactAreCombsUptoRow.holds Try.pinned (OpenSpec.upto fnExactAreCombsSpec)

/-- 'laws.FnExactMatchCombs', WHERE WHAT IT READS IS OF BULK AT MOST 1048576: true; the input reads as it did. -/
def fnExactMatchCombsUptoRow : OpenClaim := { program := "ytdgbigkcophjoaa", sum := "6e667ee7f26d5abf660c9d38f54c0a534e57adb599038f047f03812a676fd22f", func := "loop.example/g01062/laws.FnExactMatchCombs", spec := "fnExactMatchCombs", unfollowed := true, recurses := true, apart := false, narrowed := true }
def FnExactMatchCombsUptoSaid : Prop := fnExactMatchCombsUptoRow.holds Try.pinned (OpenSpec.upto fnExactMatchCombsSpec)

/-- 'laws.FnExactTurnedCombs', WHERE WHAT IT READS IS OF BULK AT MOST 1048576: true; the input reads as it did. -/
def fnExactTurnedCombsUptoRow : OpenClaim := { program := "ytdgbigkcophjoaa", sum := "6e667ee7f26d5abf660c9d38f54c0a534e57adb599038f047f03812a676fd22f", func := "loop.example/g01062/laws.FnExactTurnedCombs", spec := "fnExactTurnedCombs", unfollowed := true, recurses := true, apart := false, narrowed := true }
def FnExactTurnedCombsUptoSaid : Prop := fnExactTurnedCombsUptoRow.holds Try.pinned (OpenSpec.upto fnExactTurnedCombsSpec)

/-- 'laws.FnExactSameGauges', WHERE WHAT IT READS IS OF BULK AT MOST 1048576: true; the input reads as it did. -/
def fnExactSameGaugesUptoRow : OpenClaim := { program := "ytdgbigkcophjoaa", sum := "6e667ee7f26d5abf660c9d38f54c0a534e57adb599038f047f03812a676fd22f", func := "loop.example/g01062/laws.FnExactSameGauges", spec := "fnExactSameGauges", unfollowed := true, recurses := true, apart := false, narrowed := true }
def FnExactSameGaugesUptoSaid : Prop := fnExactSameGaugesUptoRow.holds Try.pinned (OpenSpec.upto fnExactSameGaugesSpec)

end Rows
end Go.Proofs.Ytdgbigkcophjoaa
