/-
  No cell of these rows narrows 'for every input' (looked for: loops, veiled, ifaces, maps, wideKeys, modest, calm, conditions, laid).
  DERIVED. THE GIVEN ROWS OF THIS SEAT. 13 by the template 'for every input the law returns true; each argument reads behind the call as it read before'; 0 by the template 'total and deterministic' (their statements: YtlljmgphgmklcaaTotals.lean).
  GIVEN WITH THE SEED: the statements are not yours to turn. If you find one false, say at which input.
  Laid BY PROGRAM, IN A SANDBOX (cutbox-rows.mjs): the forced cells as the released guide's own fill.sh prints them over the translation 482f7b6f1ed05759… (all of the seat's roots in one cut). By AI agents, Wed Nov 11 2026. No macro, syntax, notation, axiom, sorry.
-/
import Derived.Test.YtlljmgphgmklcaaChecked
import GoSem.Claim
import GoSem.ClaimJoined
import GoSem.ClaimMapViews
import Derived.JoinedTies
import Derived.KernelRfl
namespace Go.Proofs.Ytlljmgphgmklcaa
/- THE CELL 'sum', in the pinned program and in every row, IS THE sha256 OF THE DUMP (.gsa) THAT YtlljmgphgmklcaaProg.lean LOADS. Nothing in Lean hashes anything: it is a label: what it is worth is what the hold of that sum in a sandbox is worth. -/
noncomputable def Try.pinned : Pinned := { name := "ytlljmgphgmklcaa", sum := "482f7b6f1ed05759232530c143c26d999a7c3ca0fe2d98b3f0d35e6cd6633f21", checked := Try.checked }
namespace Rows
def none {H : Type} : Left H := { results := [], args := [] }

/-- 'laws.FnExactIsCover': WHATEVER THE INPUT: true; the input reads as it did. -/
def fnExactIsCoverSpec : ChangeSpec := { name := "fnExactIsCover", fn := fun _ => fun
  | [d] => { results := [.lit (.bool true)], args := [d] }
  | _ => none }
def fnExactIsCoverRow : OpenClaim := { program := "ytlljmgphgmklcaa", sum := "482f7b6f1ed05759232530c143c26d999a7c3ca0fe2d98b3f0d35e6cd6633f21", func := "loop.example/g01062/laws.FnExactIsCover", spec := "fnExactIsCover", apart := false }
def FnExactIsCoverSaid : Prop := fnExactIsCoverRow.holds Try.pinned (OpenSpec.ofChange fnExactIsCoverSpec)

/-- ITS FALSE NEIGHBOUR: 'it returns false'. Refute it at one input. -/
def fnExactIsCoverWrong : ChangeSpec := { name := "fnExactIsCover", fn := fun _ => fun
  | [d] => { results := [.lit (.bool false)], args := [d] }
  | _ => none }
def FnExactIsCoverWrongFalsely : Prop := fnExactIsCoverRow.holds Try.pinned (OpenSpec.ofChange fnExactIsCoverWrong)

/-- 'laws.FnExactAreCovers': WHATEVER THE INPUT: true; the input reads as it did. -/
def fnExactAreCoversSpec : ChangeSpec := { name := "fnExactAreCovers", fn := fun _ => fun
  | [d] => { results := [.lit (.bool true)], args := [d] }
  | _ => none }
def fnExactAreCoversRow : OpenClaim := { program := "ytlljmgphgmklcaa", sum := "482f7b6f1ed05759232530c143c26d999a7c3ca0fe2d98b3f0d35e6cd6633f21", func := "loop.example/g01062/laws.FnExactAreCovers", spec := "fnExactAreCovers", unfollowed := true, recurses := true, apart := false }
def FnExactAreCoversSaid : Prop := fnExactAreCoversRow.holds Try.pinned (OpenSpec.ofChange fnExactAreCoversSpec)

/-- ITS FALSE NEIGHBOUR: 'it returns false'. Refute it at one input. -/
def fnExactAreCoversWrong : ChangeSpec := { name := "fnExactAreCovers", fn := fun _ => fun
  | [d] => { results := [.lit (.bool false)], args := [d] }
  | _ => none }
def FnExactAreCoversWrongFalsely : Prop := fnExactAreCoversRow.holds Try.pinned (OpenSpec.ofChange fnExactAreCoversWrong)

/-- 'laws.FnExactFaultOf': WHATEVER THE INPUT: true; the input reads as it did. -/
def fnExactFaultOfSpec : ChangeSpec := { name := "fnExactFaultOf", fn := fun _ => fun
  | [d1, d2, d3] => { results := [.lit (.bool true)], args := [d1, d2, d3] }
  | _ => none }
def fnExactFaultOfRow : OpenClaim := { program := "ytlljmgphgmklcaa", sum := "482f7b6f1ed05759232530c143c26d999a7c3ca0fe2d98b3f0d35e6cd6633f21", func := "loop.example/g01062/laws.FnExactFaultOf", spec := "fnExactFaultOf", apart := false }
def FnExactFaultOfSaid : Prop := fnExactFaultOfRow.holds Try.pinned (OpenSpec.ofChange fnExactFaultOfSpec)

/-- ITS FALSE NEIGHBOUR: 'it returns false'. Refute it at one input. -/
def fnExactFaultOfWrong : ChangeSpec := { name := "fnExactFaultOf", fn := fun _ => fun
  | [d1, d2, d3] => { results := [.lit (.bool false)], args := [d1, d2, d3] }
  | _ => none }
def FnExactFaultOfWrongFalsely : Prop := fnExactFaultOfRow.holds Try.pinned (OpenSpec.ofChange fnExactFaultOfWrong)

/-- 'laws.FnExactTrueCovers': WHATEVER THE INPUT: true; the input reads as it did. -/
def fnExactTrueCoversSpec : ChangeSpec := { name := "fnExactTrueCovers", fn := fun _ => fun
  | [d1, d2, d3] => { results := [.lit (.bool true)], args := [d1, d2, d3] }
  | _ => none }
def fnExactTrueCoversRow : OpenClaim := { program := "ytlljmgphgmklcaa", sum := "482f7b6f1ed05759232530c143c26d999a7c3ca0fe2d98b3f0d35e6cd6633f21", func := "loop.example/g01062/laws.FnExactTrueCovers", spec := "fnExactTrueCovers", unfollowed := true, recurses := true, apart := false }
def FnExactTrueCoversSaid : Prop := fnExactTrueCoversRow.holds Try.pinned (OpenSpec.ofChange fnExactTrueCoversSpec)

/-- ITS FALSE NEIGHBOUR: 'it returns false'. Refute it at one input. -/
def fnExactTrueCoversWrong : ChangeSpec := { name := "fnExactTrueCovers", fn := fun _ => fun
  | [d1, d2, d3] => { results := [.lit (.bool false)], args := [d1, d2, d3] }
  | _ => none }
def FnExactTrueCoversWrongFalsely : Prop := fnExactTrueCoversRow.holds Try.pinned (OpenSpec.ofChange fnExactTrueCoversWrong)

/-- 'laws.FnExactFaultCounts': WHATEVER THE INPUT: true; the input reads as it did. -/
def fnExactFaultCountsSpec : ChangeSpec := { name := "fnExactFaultCounts", fn := fun _ => fun
  | [d1, d2, d3] => { results := [.lit (.bool true)], args := [d1, d2, d3] }
  | _ => none }
def fnExactFaultCountsRow : OpenClaim := { program := "ytlljmgphgmklcaa", sum := "482f7b6f1ed05759232530c143c26d999a7c3ca0fe2d98b3f0d35e6cd6633f21", func := "loop.example/g01062/laws.FnExactFaultCounts", spec := "fnExactFaultCounts", unfollowed := true, recurses := true, apart := false }
def FnExactFaultCountsSaid : Prop := fnExactFaultCountsRow.holds Try.pinned (OpenSpec.ofChange fnExactFaultCountsSpec)

/-- ITS FALSE NEIGHBOUR: 'it returns false'. Refute it at one input. -/
def fnExactFaultCountsWrong : ChangeSpec := { name := "fnExactFaultCounts", fn := fun _ => fun
  | [d1, d2, d3] => { results := [.lit (.bool false)], args := [d1, d2, d3] }
  | _ => none }
def FnExactFaultCountsWrongFalsely : Prop := fnExactFaultCountsRow.holds Try.pinned (OpenSpec.ofChange fnExactFaultCountsWrong)

/-- 'laws.FnExactDueOn': WHATEVER THE INPUT: true; the input reads as it did. -/
def fnExactDueOnSpec : ChangeSpec := { name := "fnExactDueOn", fn := fun _ => fun
  | [d1, d2] => { results := [.lit (.bool true)], args := [d1, d2] }
  | _ => none }
def fnExactDueOnRow : OpenClaim := { program := "ytlljmgphgmklcaa", sum := "482f7b6f1ed05759232530c143c26d999a7c3ca0fe2d98b3f0d35e6cd6633f21", func := "loop.example/g01062/laws.FnExactDueOn", spec := "fnExactDueOn", apart := false }
def FnExactDueOnSaid : Prop := fnExactDueOnRow.holds Try.pinned (OpenSpec.ofChange fnExactDueOnSpec)

/-- ITS FALSE NEIGHBOUR: 'it returns false'. Refute it at one input. -/
def fnExactDueOnWrong : ChangeSpec := { name := "fnExactDueOn", fn := fun _ => fun
  | [d1, d2] => { results := [.lit (.bool false)], args := [d1, d2] }
  | _ => none }
def FnExactDueOnWrongFalsely : Prop := fnExactDueOnRow.holds Try.pinned (OpenSpec.ofChange fnExactDueOnWrong)

/-- 'laws.FnExactRouteOn': WHATEVER THE INPUT: true; the input reads as it did. -/
def fnExactRouteOnSpec : ChangeSpec := { name := "fnExactRouteOn", fn := fun _ => fun
  | [d1, d2] => { results := [.lit (.bool true)], args := [d1, d2] }
  | _ => none }
def fnExactRouteOnRow : OpenClaim := { program := "ytlljmgphgmklcaa", sum := "482f7b6f1ed05759232530c143c26d999a7c3ca0fe2d98b3f0d35e6cd6633f21", func := "loop.example/g01062/laws.FnExactRouteOn", spec := "fnExactRouteOn", apart := false }
def FnExactRouteOnSaid : Prop := fnExactRouteOnRow.holds Try.pinned (OpenSpec.ofChange fnExactRouteOnSpec)

/-- ITS FALSE NEIGHBOUR: 'it returns false'. Refute it at one input. -/
def fnExactRouteOnWrong : ChangeSpec := { name := "fnExactRouteOn", fn := fun _ => fun
  | [d1, d2] => { results := [.lit (.bool false)], args := [d1, d2] }
  | _ => none }
def FnExactRouteOnWrongFalsely : Prop := fnExactRouteOnRow.holds Try.pinned (OpenSpec.ofChange fnExactRouteOnWrong)

/-- 'laws.FnExactSpareMinutes': WHATEVER THE INPUT: true; the input reads as it did. -/
def fnExactSpareMinutesSpec : ChangeSpec := { name := "fnExactSpareMinutes", fn := fun _ => fun
  | [d1, d2] => { results := [.lit (.bool true)], args := [d1, d2] }
  | _ => none }
def fnExactSpareMinutesRow : OpenClaim := { program := "ytlljmgphgmklcaa", sum := "482f7b6f1ed05759232530c143c26d999a7c3ca0fe2d98b3f0d35e6cd6633f21", func := "loop.example/g01062/laws.FnExactSpareMinutes", spec := "fnExactSpareMinutes", apart := false }
def FnExactSpareMinutesSaid : Prop := fnExactSpareMinutesRow.holds Try.pinned (OpenSpec.ofChange fnExactSpareMinutesSpec)

/-- ITS FALSE NEIGHBOUR: 'it returns false'. Refute it at one input. -/
def fnExactSpareMinutesWrong : ChangeSpec := { name := "fnExactSpareMinutes", fn := fun _ => fun
  | [d1, d2] => { results := [.lit (.bool false)], args := [d1, d2] }
  | _ => none }
def FnExactSpareMinutesWrongFalsely : Prop := fnExactSpareMinutesRow.holds Try.pinned (OpenSpec.ofChange fnExactSpareMinutesWrong)

/-- 'laws.FnExactCoversVia': WHATEVER THE INPUT: true; the input reads as it did. -/
def fnExactCoversViaSpec : ChangeSpec := { name := "fnExactCoversVia", fn := fun _ => fun
  | [d1, d2, d3] => { results := [.lit (.bool true)], args := [d1, d2, d3] }
  | _ => none }
def fnExactCoversViaRow : OpenClaim := { program := "ytlljmgphgmklcaa", sum := "482f7b6f1ed05759232530c143c26d999a7c3ca0fe2d98b3f0d35e6cd6633f21", func := "loop.example/g01062/laws.FnExactCoversVia", spec := "fnExactCoversVia", unfollowed := true, recurses := true, apart := false }
def FnExactCoversViaSaid : Prop := fnExactCoversViaRow.holds Try.pinned (OpenSpec.ofChange fnExactCoversViaSpec)

/-- ITS FALSE NEIGHBOUR: 'it returns false'. Refute it at one input. -/
def fnExactCoversViaWrong : ChangeSpec := { name := "fnExactCoversVia", fn := fun _ => fun
  | [d1, d2, d3] => { results := [.lit (.bool false)], args := [d1, d2, d3] }
  | _ => none }
def FnExactCoversViaWrongFalsely : Prop := fnExactCoversViaRow.holds Try.pinned (OpenSpec.ofChange fnExactCoversViaWrong)

/-- 'laws.FnExactFaultText': WHATEVER THE INPUT: true; the input reads as it did. -/
def fnExactFaultTextSpec : ChangeSpec := { name := "fnExactFaultText", fn := fun _ => fun
  | [d] => { results := [.lit (.bool true)], args := [d] }
  | _ => none }
def fnExactFaultTextRow : OpenClaim := { program := "ytlljmgphgmklcaa", sum := "482f7b6f1ed05759232530c143c26d999a7c3ca0fe2d98b3f0d35e6cd6633f21", func := "loop.example/g01062/laws.FnExactFaultText", spec := "fnExactFaultText", apart := false }
def FnExactFaultTextSaid : Prop := fnExactFaultTextRow.holds Try.pinned (OpenSpec.ofChange fnExactFaultTextSpec)

/-- ITS FALSE NEIGHBOUR: 'it returns false'. Refute it at one input. -/
def fnExactFaultTextWrong : ChangeSpec := { name := "fnExactFaultText", fn := fun _ => fun
  | [d] => { results := [.lit (.bool false)], args := [d] }
  | _ => none }
def FnExactFaultTextWrongFalsely : Prop := fnExactFaultTextRow.holds Try.pinned (OpenSpec.ofChange fnExactFaultTextWrong)

/-- 'laws.FnCovers': WHATEVER THE INPUT: true; the input reads as it did. -/
def fnCoversSpec : ChangeSpec := { name := "fnCovers", fn := fun _ => fun
  | [d] => { results := [.lit (.bool true)], args := [d] }
  | _ => none }
def fnCoversRow : OpenClaim := { program := "ytlljmgphgmklcaa", sum := "482f7b6f1ed05759232530c143c26d999a7c3ca0fe2d98b3f0d35e6cd6633f21", func := "loop.example/g01062/laws.FnCovers", spec := "fnCovers", apart := false }
def FnCoversSaid : Prop := fnCoversRow.holds Try.pinned (OpenSpec.ofChange fnCoversSpec)

/-- ITS FALSE NEIGHBOUR: 'it returns false'. Refute it at one input. -/
def fnCoversWrong : ChangeSpec := { name := "fnCovers", fn := fun _ => fun
  | [d] => { results := [.lit (.bool false)], args := [d] }
  | _ => none }
def FnCoversWrongFalsely : Prop := fnCoversRow.holds Try.pinned (OpenSpec.ofChange fnCoversWrong)

/-- 'laws.FnCoverLists': WHATEVER THE INPUT: true; the input reads as it did. -/
def fnCoverListsSpec : ChangeSpec := { name := "fnCoverLists", fn := fun _ => fun
  | [d] => { results := [.lit (.bool true)], args := [d] }
  | _ => none }
def fnCoverListsRow : OpenClaim := { program := "ytlljmgphgmklcaa", sum := "482f7b6f1ed05759232530c143c26d999a7c3ca0fe2d98b3f0d35e6cd6633f21", func := "loop.example/g01062/laws.FnCoverLists", spec := "fnCoverLists", unfollowed := true, recurses := true, apart := false }
def FnCoverListsSaid : Prop := fnCoverListsRow.holds Try.pinned (OpenSpec.ofChange fnCoverListsSpec)

/-- ITS FALSE NEIGHBOUR: 'it returns false'. Refute it at one input. -/
def fnCoverListsWrong : ChangeSpec := { name := "fnCoverLists", fn := fun _ => fun
  | [d] => { results := [.lit (.bool false)], args := [d] }
  | _ => none }
def FnCoverListsWrongFalsely : Prop := fnCoverListsRow.holds Try.pinned (OpenSpec.ofChange fnCoverListsWrong)

/-- 'laws.FnRaises': WHATEVER THE INPUT: true; the input reads as it did. -/
def fnRaisesSpec : ChangeSpec := { name := "fnRaises", fn := fun _ => fun
  | [d] => { results := [.lit (.bool true)], args := [d] }
  | _ => none }
def fnRaisesRow : OpenClaim := { program := "ytlljmgphgmklcaa", sum := "482f7b6f1ed05759232530c143c26d999a7c3ca0fe2d98b3f0d35e6cd6633f21", func := "loop.example/g01062/laws.FnRaises", spec := "fnRaises", unfollowed := true, recurses := true, apart := false }
def FnRaisesSaid : Prop := fnRaisesRow.holds Try.pinned (OpenSpec.ofChange fnRaisesSpec)

/-- ITS FALSE NEIGHBOUR: 'it returns false'. Refute it at one input. -/
def fnRaisesWrong : ChangeSpec := { name := "fnRaises", fn := fun _ => fun
  | [d] => { results := [.lit (.bool false)], args := [d] }
  | _ => none }
def FnRaisesWrongFalsely : Prop := fnRaisesRow.holds Try.pinned (OpenSpec.ofChange fnRaisesWrong)

/- THE SECOND FORM. 'bulk': how many values and letters a reading holds, each counted each time it is reached (what is shared counts as often as it is met; a slice's spare places count too). A statement '..UptoSaid' is the law's where the arguments, and the package variables that the reading takes, are together of bulk at most 1048576: NARROWER than '..Said'. Prove '..Said' where nothing that the law and all that it calls make is longer than what came in: it says more and counts as full. Else prove '..UptoSaid'. A law counts once. -/
mutual
def uptoBulk {H : Type} : DataW H → Nat
  | .lit (.string bytes) => bytes.length + 1
  | .lit _ => 1
  | .nil => 1
  | .ptr d => uptoBulk d + 1
  | .slice elems spare => uptoBulkAll elems + uptoBulkAll spare + 1
  | .agg parts => uptoBulkAll parts + 1
  | .iface _ d => uptoBulk d + 1
  | .map entries => uptoBulkEntries entries + 1
  | .held _ => 1
def uptoBulkAll {H : Type} : List (DataW H) → Nat
  | [] => 0
  | d :: r => uptoBulk d + uptoBulkAll r
def uptoBulkEntries {H : Type} : List (Lit × DataW H) → Nat
  | [] => 0
  | x :: r => uptoBulkEntry x + uptoBulkEntries r
def uptoBulkEntry {H : Type} : Lit × DataW H → Nat
  | (.string bytes, d) => bytes.length + uptoBulk d + 1
  | (_, d) => uptoBulk d + 1
 end
def uptoSmall : (H : Type) → List (DataW H) → Bool := fun _ ds => decide (uptoBulkAll ds ≤ 1048576)
def OpenSpec.upto (s : _root_.Go.ChangeSpec) : _root_.Go.OpenSpec := { _root_.Go.OpenSpec.ofChange s with cond := some uptoSmall }

/-- 'laws.FnExactIsCover', WHERE WHAT IT READS IS OF BULK AT MOST 1048576: true; the input reads as it did. -/
def fnExactIsCoverUptoRow : OpenClaim := { program := "ytlljmgphgmklcaa", sum := "482f7b6f1ed05759232530c143c26d999a7c3ca0fe2d98b3f0d35e6cd6633f21", func := "loop.example/g01062/laws.FnExactIsCover", spec := "fnExactIsCover", apart := false, narrowed := true }
def FnExactIsCoverUptoSaid : Prop := fnExactIsCoverUptoRow.holds Try.pinned (OpenSpec.upto fnExactIsCoverSpec)

/-- 'laws.FnExactAreCovers', WHERE WHAT IT READS IS OF BULK AT MOST 1048576: true; the input reads as it did. -/
def fnExactAreCoversUptoRow : OpenClaim := { program := "ytlljmgphgmklcaa", sum := "482f7b6f1ed05759232530c143c26d999a7c3ca0fe2d98b3f0d35e6cd6633f21", func := "loop.example/g01062/laws.FnExactAreCovers", spec := "fnExactAreCovers", unfollowed := true, recurses := true, apart := false, narrowed := true }
def FnExactAreCoversUptoSaid : Prop := fnExactAreCoversUptoRow.holds Try.pinned (OpenSpec.upto fnExactAreCoversSpec)

/-- 'laws.FnExactFaultOf', WHERE WHAT IT READS IS OF BULK AT MOST 1048576: true; the input reads as it did. -/
def fnExactFaultOfUptoRow : OpenClaim := { program := "ytlljmgphgmklcaa", sum := "482f7b6f1ed05759232530c143c26d999a7c3ca0fe2d98b3f0d35e6cd6633f21", func := "loop.example/g01062/laws.FnExactFaultOf", spec := "fnExactFaultOf", apart := false, narrowed := true }
def FnExactFaultOfUptoSaid : Prop := fnExactFaultOfUptoRow.holds Try.pinned (OpenSpec.upto fnExactFaultOfSpec)

/-- 'laws.FnExactTrueCovers', WHERE WHAT IT READS IS OF BULK AT MOST 1048576: true; the input reads as it did. -/
def fnExactTrueCoversUptoRow : OpenClaim := { program := "ytlljmgphgmklcaa", sum := "482f7b6f1ed05759232530c143c26d999a7c3ca0fe2d98b3f0d35e6cd6633f21", func := "loop.example/g01062/laws.FnExactTrueCovers", spec := "fnExactTrueCovers", unfollowed := true, recurses := true, apart := false, narrowed := true }
def FnExactTrueCoversUptoSaid : Prop := fnExactTrueCoversUptoRow.holds Try.pinned (OpenSpec.upto fnExactTrueCoversSpec)

/-- 'laws.FnExactFaultCounts', WHERE WHAT IT READS IS OF BULK AT MOST 1048576: true; the input reads as it did. -/
def fnExactFaultCountsUptoRow : OpenClaim := { program := "ytlljmgphgmklcaa", sum := "482f7b6f1ed05759232530c143c26d999a7c3ca0fe2d98b3f0d35e6cd6633f21", func := "loop.example/g01062/laws.FnExactFaultCounts", spec := "fnExactFaultCounts", unfollowed := true, recurses := true, apart := false, narrowed := true }
def FnExactFaultCountsUptoSaid : Prop := fnExactFaultCountsUptoRow.holds Try.pinned (OpenSpec.upto fnExactFaultCountsSpec)

/-- 'laws.FnExactDueOn', WHERE WHAT IT READS IS OF BULK AT MOST 1048576: true; the input reads as it did. -/
def fnExactDueOnUptoRow : OpenClaim := { program := "ytlljmgphgmklcaa", sum := "482f7b6f1ed05759232530c143c26d999a7c3ca0fe2d98b3f0d35e6cd6633f21", func := "loop.example/g01062/laws.FnExactDueOn", spec := "fnExactDueOn", apart := false, narrowed := true }
def FnExactDueOnUptoSaid : Prop := fnExactDueOnUptoRow.holds Try.pinned (OpenSpec.upto fnExactDueOnSpec)

/-- 'laws.FnExactRouteOn', WHERE WHAT IT READS IS OF BULK AT MOST 1048576: true; the input reads as it did. -/
def fnExactRouteOnUptoRow : OpenClaim := { program := "ytlljmgphgmklcaa", sum := "482f7b6f1ed05759232530c143c26d999a7c3ca0fe2d98b3f0d35e6cd6633f21", func := "loop.example/g01062/laws.FnExactRouteOn", spec := "fnExactRouteOn", apart := false, narrowed := true }
def FnExactRouteOnUptoSaid : Prop := fnExactRouteOnUptoRow.holds Try.pinned (OpenSpec.upto fnExactRouteOnSpec)

/-- 'laws.FnExactSpareMinutes', WHERE WHAT IT READS IS OF BULK AT MOST 1048576: true; the input reads as it did. -/
def fnExactSpareMinutesUptoRow : OpenClaim := { program := "ytlljmgphgmklcaa", sum := "482f7b6f1ed05759232530c143c26d999a7c3ca0fe2d98b3f0d35e6cd6633f21", func := "loop.example/g01062/laws.FnExactSpareMinutes", spec := "fnExactSpareMinutes", apart := false, narrowed := true }
def FnExactSpareMinutesUptoSaid : Prop := fnExactSpareMinutesUptoRow.holds Try.pinned (OpenSpec.upto fnExactSpareMinutesSpec)

/-- 'laws.FnExactCoversVia', WHERE WHAT IT READS IS OF BULK AT MOST 1048576: true; the input reads as it did. -/
def fnExactCoversViaUptoRow : OpenClaim := { program := "ytlljmgphgmklcaa", sum := "482f7b6f1ed05759232530c143c26d999a7c3ca0fe2d98b3f0d35e6cd6633f21", func := "loop.example/g01062/laws.FnExactCoversVia", spec := "fnExactCoversVia", unfollowed := true, recurses := true, apart := false, narrowed := true }
def FnExactCoversViaUptoSaid : Prop := fnExactCoversViaUptoRow.holds Try.pinned (OpenSpec.upto fnExactCoversViaSpec)

/-- 'laws.FnExactFaultText', WHERE WHAT IT READS IS OF BULK AT MOST 1048576: true; the input reads as it did. -/
def fnExactFaultTextUptoRow : OpenClaim := { program := "ytlljmgphgmklcaa", sum := "482f7b6f1ed05759232530c143c26d999a7c3ca0fe2d98b3f0d35e6cd6633f21", func := "loop.example/g01062/laws.FnExactFaultText", spec := "fnExactFaultText", apart := false, narrowed := true }
def FnExactFaultTextUptoSaid : Prop := fnExactFaultTextUptoRow.holds Try.pinned (OpenSpec.upto fnExactFaultTextSpec)

/-- 'laws.FnCovers', WHERE WHAT IT READS IS OF BULK AT MOST 1048576: true; the input reads as it did. -/
def fnCoversUptoRow : OpenClaim := { program := "ytlljmgphgmklcaa", sum := "482f7b6f1ed05759232530c143c26d999a7c3ca0fe2d98b3f0d35e6cd6633f21", func := "loop.example/g01062/laws.FnCovers", spec := "fnCovers", apart := false, narrowed := true }
def FnCoversUptoSaid : Prop := fnCoversUptoRow.holds Try.pinned (OpenSpec.upto fnCoversSpec)

/-- 'laws.FnCoverLists', WHERE WHAT IT READS IS OF BULK AT MOST 1048576: true; the input reads as it did. -/
def fnCoverListsUptoRow : OpenClaim := { program := "ytlljmgphgmklcaa", sum := "482f7b6f1ed05759232530c143c26d999a7c3ca0fe2d98b3f0d35e6cd6633f21", func := "loop.example/g01062/laws.FnCoverLists", spec := "fnCoverLists", unfollowed := true, recurses := true, apart := false, narrowed := true }
def FnCoverListsUptoSaid : Prop := fnCoverListsUptoRow.holds Try.pinned (OpenSpec.upto fnCoverListsSpec)

/-- 'laws.FnRaises', WHERE WHAT IT READS IS OF BULK AT MOST 1048576: true; the input reads as it did. -/
def fnRaisesUptoRow : OpenClaim := { program := "ytlljmgphgmklcaa", sum := "482f7b6f1ed05759232530c143c26d999a7c3ca0fe2d98b3f0d35e6cd6633f21", func := "loop.example/g01062/laws.FnRaises", spec := "fnRaises", unfollowed := true, recurses := true, apart := false, narrowed := true }
def FnRaisesUptoSaid : Prop := fnRaisesUptoRow.holds Try.pinned (OpenSpec.upto fnRaisesSpec)

end Rows
end Go.Proofs.Ytlljmgphgmklcaa
