/-
  No cell of these rows narrows 'for every input' (looked for: loops, veiled, ifaces, maps, wideKeys, modest, calm, conditions, laid).
  DERIVED. THE GIVEN ROWS OF THIS SEAT. 12 by the template 'for every input the law returns true; each argument reads behind the call as it read before'; 0 by the template 'total and deterministic' (their statements: YtihibckijdfidaaTotals.lean).
  GIVEN WITH THE SEED: the statements are not yours to turn. If you find one false, say at which input.
  Laid BY PROGRAM, IN A SANDBOX (cutbox-rows.mjs): the forced cells as the released guide's own fill.sh prints them over the translation 931f114496397c24… (all of the seat's roots in one cut). By AI agents, Wed Nov 11 2026. No macro, syntax, notation, axiom, sorry.
-/
import Derived.Test.YtihibckijdfidaaChecked
import GoSem.Claim
import GoSem.ClaimJoined
import GoSem.ClaimMapViews
import Derived.JoinedTies
import Derived.KernelRfl
namespace Go.Proofs.Ytihibckijdfidaa
/- THE CELL 'sum', in the pinned program and in every row, IS THE sha256 OF THE DUMP (.gsa) THAT YtihibckijdfidaaProg.lean LOADS. Nothing in Lean hashes anything: it is a label: what it is worth is what the hold of that sum in a sandbox is worth. -/
noncomputable def Try.pinned : Pinned := { name := "ytihibckijdfidaa", sum := "931f114496397c249367e40ed13e8c8e22f4e833f8a28e2edb1f4b678ad3e143", checked := Try.checked }
namespace Rows
def none {H : Type} : Left H := { results := [], args := [] }

/-- 'laws.FnExactIsExplained': WHATEVER THE INPUT: true; the input reads as it did. -/
def fnExactIsExplainedSpec : ChangeSpec := { name := "fnExactIsExplained", fn := fun _ => fun
  | [d1, d2] => { results := [.lit (.bool true)], args := [d1, d2] }
  | _ => none }
def fnExactIsExplainedRow : OpenClaim := { program := "ytihibckijdfidaa", sum := "931f114496397c249367e40ed13e8c8e22f4e833f8a28e2edb1f4b678ad3e143", func := "loop.example/g01062/laws.FnExactIsExplained", spec := "fnExactIsExplained", apart := false }
def FnExactIsExplainedSaid : Prop := fnExactIsExplainedRow.holds Try.pinned (OpenSpec.ofChange fnExactIsExplainedSpec)

/-- ITS FALSE NEIGHBOUR: 'it returns false'. Refute it at one input. -/
def fnExactIsExplainedWrong : ChangeSpec := { name := "fnExactIsExplained", fn := fun _ => fun
  | [d1, d2] => { results := [.lit (.bool false)], args := [d1, d2] }
  | _ => none }
def FnExactIsExplainedWrongFalsely : Prop := fnExactIsExplainedRow.holds Try.pinned (OpenSpec.ofChange fnExactIsExplainedWrong)

/-- 'laws.FnExactMakeCover': WHATEVER THE INPUT: true; the input reads as it did. -/
def fnExactMakeCoverSpec : ChangeSpec := { name := "fnExactMakeCover", fn := fun _ => fun
  | [d1, d2, d3] => { results := [.lit (.bool true)], args := [d1, d2, d3] }
  | _ => none }
def fnExactMakeCoverRow : OpenClaim := { program := "ytihibckijdfidaa", sum := "931f114496397c249367e40ed13e8c8e22f4e833f8a28e2edb1f4b678ad3e143", func := "loop.example/g01062/laws.FnExactMakeCover", spec := "fnExactMakeCover", recurses := true, apart := false }
def FnExactMakeCoverSaid : Prop := fnExactMakeCoverRow.holds Try.pinned (OpenSpec.ofChange fnExactMakeCoverSpec)

/-- ITS FALSE NEIGHBOUR: 'it returns false'. Refute it at one input. -/
def fnExactMakeCoverWrong : ChangeSpec := { name := "fnExactMakeCover", fn := fun _ => fun
  | [d1, d2, d3] => { results := [.lit (.bool false)], args := [d1, d2, d3] }
  | _ => none }
def FnExactMakeCoverWrongFalsely : Prop := fnExactMakeCoverRow.holds Try.pinned (OpenSpec.ofChange fnExactMakeCoverWrong)

/-- 'laws.FnExactPossibleChanges': WHATEVER THE INPUT: true; the input reads as it did. -/
def fnExactPossibleChangesSpec : ChangeSpec := { name := "fnExactPossibleChanges", fn := fun _ => fun
  | [d1, d2] => { results := [.lit (.bool true)], args := [d1, d2] }
  | _ => none }
def fnExactPossibleChangesRow : OpenClaim := { program := "ytihibckijdfidaa", sum := "931f114496397c249367e40ed13e8c8e22f4e833f8a28e2edb1f4b678ad3e143", func := "loop.example/g01062/laws.FnExactPossibleChanges", spec := "fnExactPossibleChanges", recurses := true, apart := false }
def FnExactPossibleChangesSaid : Prop := fnExactPossibleChangesRow.holds Try.pinned (OpenSpec.ofChange fnExactPossibleChangesSpec)

/-- ITS FALSE NEIGHBOUR: 'it returns false'. Refute it at one input. -/
def fnExactPossibleChangesWrong : ChangeSpec := { name := "fnExactPossibleChanges", fn := fun _ => fun
  | [d1, d2] => { results := [.lit (.bool false)], args := [d1, d2] }
  | _ => none }
def FnExactPossibleChangesWrongFalsely : Prop := fnExactPossibleChangesRow.holds Try.pinned (OpenSpec.ofChange fnExactPossibleChangesWrong)

/-- 'laws.FnExactLeastChange': WHATEVER THE INPUT: true; the input reads as it did. -/
def fnExactLeastChangeSpec : ChangeSpec := { name := "fnExactLeastChange", fn := fun _ => fun
  | [d1, d2] => { results := [.lit (.bool true)], args := [d1, d2] }
  | _ => none }
def fnExactLeastChangeRow : OpenClaim := { program := "ytihibckijdfidaa", sum := "931f114496397c249367e40ed13e8c8e22f4e833f8a28e2edb1f4b678ad3e143", func := "loop.example/g01062/laws.FnExactLeastChange", spec := "fnExactLeastChange", unfollowed := true, recurses := true, apart := false }
def FnExactLeastChangeSaid : Prop := fnExactLeastChangeRow.holds Try.pinned (OpenSpec.ofChange fnExactLeastChangeSpec)

/-- ITS FALSE NEIGHBOUR: 'it returns false'. Refute it at one input. -/
def fnExactLeastChangeWrong : ChangeSpec := { name := "fnExactLeastChange", fn := fun _ => fun
  | [d1, d2] => { results := [.lit (.bool false)], args := [d1, d2] }
  | _ => none }
def FnExactLeastChangeWrongFalsely : Prop := fnExactLeastChangeRow.holds Try.pinned (OpenSpec.ofChange fnExactLeastChangeWrong)

/-- 'laws.FnExactCheapestChange': WHATEVER THE INPUT: true; the input reads as it did. -/
def fnExactCheapestChangeSpec : ChangeSpec := { name := "fnExactCheapestChange", fn := fun _ => fun
  | [d1, d2, d3] => { results := [.lit (.bool true)], args := [d1, d2, d3] }
  | _ => none }
def fnExactCheapestChangeRow : OpenClaim := { program := "ytihibckijdfidaa", sum := "931f114496397c249367e40ed13e8c8e22f4e833f8a28e2edb1f4b678ad3e143", func := "loop.example/g01062/laws.FnExactCheapestChange", spec := "fnExactCheapestChange", unfollowed := true, recurses := true, apart := false }
def FnExactCheapestChangeSaid : Prop := fnExactCheapestChangeRow.holds Try.pinned (OpenSpec.ofChange fnExactCheapestChangeSpec)

/-- ITS FALSE NEIGHBOUR: 'it returns false'. Refute it at one input. -/
def fnExactCheapestChangeWrong : ChangeSpec := { name := "fnExactCheapestChange", fn := fun _ => fun
  | [d1, d2, d3] => { results := [.lit (.bool false)], args := [d1, d2, d3] }
  | _ => none }
def FnExactCheapestChangeWrongFalsely : Prop := fnExactCheapestChangeRow.holds Try.pinned (OpenSpec.ofChange fnExactCheapestChangeWrong)

/-- 'laws.FnExactNeededChanges': WHATEVER THE INPUT: true; the input reads as it did. -/
def fnExactNeededChangesSpec : ChangeSpec := { name := "fnExactNeededChanges", fn := fun _ => fun
  | [d1, d2] => { results := [.lit (.bool true)], args := [d1, d2] }
  | _ => none }
def fnExactNeededChangesRow : OpenClaim := { program := "ytihibckijdfidaa", sum := "931f114496397c249367e40ed13e8c8e22f4e833f8a28e2edb1f4b678ad3e143", func := "loop.example/g01062/laws.FnExactNeededChanges", spec := "fnExactNeededChanges", recurses := true, apart := false }
def FnExactNeededChangesSaid : Prop := fnExactNeededChangesRow.holds Try.pinned (OpenSpec.ofChange fnExactNeededChangesSpec)

/-- ITS FALSE NEIGHBOUR: 'it returns false'. Refute it at one input. -/
def fnExactNeededChangesWrong : ChangeSpec := { name := "fnExactNeededChanges", fn := fun _ => fun
  | [d1, d2] => { results := [.lit (.bool false)], args := [d1, d2] }
  | _ => none }
def FnExactNeededChangesWrongFalsely : Prop := fnExactNeededChangesRow.holds Try.pinned (OpenSpec.ofChange fnExactNeededChangesWrong)

/-- 'laws.FnExactChangeOf': WHATEVER THE INPUT: true; the input reads as it did. -/
def fnExactChangeOfSpec : ChangeSpec := { name := "fnExactChangeOf", fn := fun _ => fun
  | [d1, d2] => { results := [.lit (.bool true)], args := [d1, d2] }
  | _ => none }
def fnExactChangeOfRow : OpenClaim := { program := "ytihibckijdfidaa", sum := "931f114496397c249367e40ed13e8c8e22f4e833f8a28e2edb1f4b678ad3e143", func := "loop.example/g01062/laws.FnExactChangeOf", spec := "fnExactChangeOf", apart := false }
def FnExactChangeOfSaid : Prop := fnExactChangeOfRow.holds Try.pinned (OpenSpec.ofChange fnExactChangeOfSpec)

/-- ITS FALSE NEIGHBOUR: 'it returns false'. Refute it at one input. -/
def fnExactChangeOfWrong : ChangeSpec := { name := "fnExactChangeOf", fn := fun _ => fun
  | [d1, d2] => { results := [.lit (.bool false)], args := [d1, d2] }
  | _ => none }
def FnExactChangeOfWrongFalsely : Prop := fnExactChangeOfRow.holds Try.pinned (OpenSpec.ofChange fnExactChangeOfWrong)

/-- 'laws.FnExactChangeText': WHATEVER THE INPUT: true; the input reads as it did. -/
def fnExactChangeTextSpec : ChangeSpec := { name := "fnExactChangeText", fn := fun _ => fun
  | [d] => { results := [.lit (.bool true)], args := [d] }
  | _ => none }
def fnExactChangeTextRow : OpenClaim := { program := "ytihibckijdfidaa", sum := "931f114496397c249367e40ed13e8c8e22f4e833f8a28e2edb1f4b678ad3e143", func := "loop.example/g01062/laws.FnExactChangeText", spec := "fnExactChangeText", inPlace := ["internal/abi.NoEscape", "internal/bytealg.MakeNoZero"], apart := false }
def FnExactChangeTextSaid : Prop := fnExactChangeTextRow.holds Try.pinned (OpenSpec.ofChange fnExactChangeTextSpec)

/-- ITS FALSE NEIGHBOUR: 'it returns false'. Refute it at one input. -/
def fnExactChangeTextWrong : ChangeSpec := { name := "fnExactChangeText", fn := fun _ => fun
  | [d] => { results := [.lit (.bool false)], args := [d] }
  | _ => none }
def FnExactChangeTextWrongFalsely : Prop := fnExactChangeTextRow.holds Try.pinned (OpenSpec.ofChange fnExactChangeTextWrong)

/-- 'laws.FnBlocks': WHATEVER THE INPUT: true; the input reads as it did. -/
def fnBlocksSpec : ChangeSpec := { name := "fnBlocks", fn := fun _ => fun
  | [d] => { results := [.lit (.bool true)], args := [d] }
  | _ => none }
def fnBlocksRow : OpenClaim := { program := "ytihibckijdfidaa", sum := "931f114496397c249367e40ed13e8c8e22f4e833f8a28e2edb1f4b678ad3e143", func := "loop.example/g01062/laws.FnBlocks", spec := "fnBlocks", inPlace := ["internal/bytealg.CountString", "internal/bytealg.IndexByteString", "internal/bytealg.IndexString", "internal/abi.NoEscape", "internal/bytealg.MakeNoZero"], named := ["internal/bytealg.MaxLen"], apart := false }
def FnBlocksSaid : Prop := fnBlocksRow.holds Try.pinned (OpenSpec.ofChange fnBlocksSpec)

/-- ITS FALSE NEIGHBOUR: 'it returns false'. Refute it at one input. -/
def fnBlocksWrong : ChangeSpec := { name := "fnBlocks", fn := fun _ => fun
  | [d] => { results := [.lit (.bool false)], args := [d] }
  | _ => none }
def FnBlocksWrongFalsely : Prop := fnBlocksRow.holds Try.pinned (OpenSpec.ofChange fnBlocksWrong)

/-- 'laws.FnExactAddBan': WHATEVER THE INPUT: true; the input reads as it did. -/
def fnExactAddBanSpec : ChangeSpec := { name := "fnExactAddBan", fn := fun _ => fun
  | [d1, d2] => { results := [.lit (.bool true)], args := [d1, d2] }
  | _ => none }
def fnExactAddBanRow : OpenClaim := { program := "ytihibckijdfidaa", sum := "931f114496397c249367e40ed13e8c8e22f4e833f8a28e2edb1f4b678ad3e143", func := "loop.example/g01062/laws.FnExactAddBan", spec := "fnExactAddBan", inPlace := ["slices.overlaps[loop.example/g01062/impl.Ban]"], unfollowed := true, recurses := true, apart := false }
def FnExactAddBanSaid : Prop := fnExactAddBanRow.holds Try.pinned (OpenSpec.ofChange fnExactAddBanSpec)

/-- ITS FALSE NEIGHBOUR: 'it returns false'. Refute it at one input. -/
def fnExactAddBanWrong : ChangeSpec := { name := "fnExactAddBan", fn := fun _ => fun
  | [d1, d2] => { results := [.lit (.bool false)], args := [d1, d2] }
  | _ => none }
def FnExactAddBanWrongFalsely : Prop := fnExactAddBanRow.holds Try.pinned (OpenSpec.ofChange fnExactAddBanWrong)

/-- 'laws.FnExactLeastOver': WHATEVER THE INPUT: true; the input reads as it did. -/
def fnExactLeastOverSpec : ChangeSpec := { name := "fnExactLeastOver", fn := fun _ => fun
  | [d1, d2, d3] => { results := [.lit (.bool true)], args := [d1, d2, d3] }
  | _ => none }
def fnExactLeastOverRow : OpenClaim := { program := "ytihibckijdfidaa", sum := "931f114496397c249367e40ed13e8c8e22f4e833f8a28e2edb1f4b678ad3e143", func := "loop.example/g01062/laws.FnExactLeastOver", spec := "fnExactLeastOver", unfollowed := true, recurses := true, apart := false }
def FnExactLeastOverSaid : Prop := fnExactLeastOverRow.holds Try.pinned (OpenSpec.ofChange fnExactLeastOverSpec)

/-- ITS FALSE NEIGHBOUR: 'it returns false'. Refute it at one input. -/
def fnExactLeastOverWrong : ChangeSpec := { name := "fnExactLeastOver", fn := fun _ => fun
  | [d1, d2, d3] => { results := [.lit (.bool false)], args := [d1, d2, d3] }
  | _ => none }
def FnExactLeastOverWrongFalsely : Prop := fnExactLeastOverRow.holds Try.pinned (OpenSpec.ofChange fnExactLeastOverWrong)

/-- 'laws.FnExactByColor': WHATEVER THE INPUT: true; the input reads as it did. -/
def fnExactByColorSpec : ChangeSpec := { name := "fnExactByColor", fn := fun _ => fun
  | [d] => { results := [.lit (.bool true)], args := [d] }
  | _ => none }
def fnExactByColorRow : OpenClaim := { program := "ytihibckijdfidaa", sum := "931f114496397c249367e40ed13e8c8e22f4e833f8a28e2edb1f4b678ad3e143", func := "loop.example/g01062/laws.FnExactByColor", spec := "fnExactByColor", unfollowed := true, recurses := true, apart := false }
def FnExactByColorSaid : Prop := fnExactByColorRow.holds Try.pinned (OpenSpec.ofChange fnExactByColorSpec)

/-- ITS FALSE NEIGHBOUR: 'it returns false'. Refute it at one input. -/
def fnExactByColorWrong : ChangeSpec := { name := "fnExactByColor", fn := fun _ => fun
  | [d] => { results := [.lit (.bool false)], args := [d] }
  | _ => none }
def FnExactByColorWrongFalsely : Prop := fnExactByColorRow.holds Try.pinned (OpenSpec.ofChange fnExactByColorWrong)

/- THE SECOND FORM. 'bulk': how many values and letters a reading holds, each counted each time it is reached (what is shared counts as often as it is met; a slice's spare places count too). A statement '..UptoSaid' is the law's where the arguments, and the package variables that the reading takes, are together of bulk at most 1048576: NARROWER than '..Said'. Prove '..Said' where nothing that the law and all that it calls make is longer than what came in: it says more and counts as full. Else prove '..UptoSaid'. A law counts once. -/
mutual
def uptoBulk {H : Type} : DataW H → Nat
  | .lit (.string bytes) => bytes.length + 1
  | .lit _ => 1
  | .nil => 1
  | .ptr d => uptoBulk d + 1
  | .slice elems spare => uptoBulkAll elems + uptoBulkAll spare + 1
  | .agg parts => uptoBulkAll parts + 1
  | .iface _ d => uptoBulk d + 1
  | .map entries => uptoBulkEntries entries + 1
  | .held _ => 1
def uptoBulkAll {H : Type} : List (DataW H) → Nat
  | [] => 0
  | d :: r => uptoBulk d + uptoBulkAll r
def uptoBulkEntries {H : Type} : List (Lit × DataW H) → Nat
  | [] => 0
  | x :: r => uptoBulkEntry x + uptoBulkEntries r
def uptoBulkEntry {H : Type} : Lit × DataW H → Nat
  | (.string bytes, d) => bytes.length + uptoBulk d + 1
  | (_, d) => uptoBulk d + 1
 end
def uptoSmall : (H : Type) → List (DataW H) → Bool := fun _ ds => decide (uptoBulkAll ds ≤ 1048576)
def OpenSpec.upto (s : _root_.Go.ChangeSpec) : _root_.Go.OpenSpec := { _root_.Go.OpenSpec.ofChange s with cond := some uptoSmall }

/-- 'laws.FnExactIsExplained', WHERE WHAT IT READS IS OF BULK AT MOST 1048576: true; the input reads as it did. -/
def fnExactIsExplainedUptoRow : OpenClaim := { program := "ytihibckijdfidaa", sum := "931f114496397c249367e40ed13e8c8e22f4e833f8a28e2edb1f4b678ad3e143", func := "loop.example/g01062/laws.FnExactIsExplained", spec := "fnExactIsExplained", apart := false, narrowed := true }
def FnExactIsExplainedUptoSaid : Prop := fnExactIsExplainedUptoRow.holds Try.pinned (OpenSpec.upto fnExactIsExplainedSpec)

/-- 'laws.FnExactMakeCover', WHERE WHAT IT READS IS OF BULK AT MOST 1048576: true; the input reads as it did. -/
def fnExactMakeCoverUptoRow : OpenClaim := { program := "ytihibckijdfidaa", sum := "931f114496397c249367e40ed13e8c8e22f4e833f8a28e2edb1f4b678ad3e143", func := "loop.example/g01062/laws.FnExactMakeCover", spec := "fnExactMakeCover", recurses := true, apart := false, narrowed := true }
def FnExactMakeCoverUptoSaid : Prop := fnExactMakeCoverUptoRow.holds Try.pinned (OpenSpec.upto fnExactMakeCoverSpec)

/-- 'laws.FnExactPossibleChanges', WHERE WHAT IT READS IS OF BULK AT MOST 1048576: true; the input reads as it did. -/
def fnExactPossibleChangesUptoRow : OpenClaim := { program := "ytihibckijdfidaa", sum := "931f114496397c249367e40ed13e8c8e22f4e833f8a28e2edb1f4b678ad3e143", func := "loop.example/g01062/laws.FnExactPossibleChanges", spec := "fnExactPossibleChanges", recurses := true, apart := false, narrowed := true }
def FnExactPossibleChangesUptoSaid : Prop := fnExactPossibleChangesUptoRow.holds Try.pinned (OpenSpec.upto fnExactPossibleChangesSpec)

/-- 'laws.FnExactLeastChange', WHERE WHAT IT READS IS OF BULK AT MOST 1048576: true; the input reads as it did. -/
def fnExactLeastChangeUptoRow : OpenClaim := { program := "ytihibckijdfidaa", sum := "931f114496397c249367e40ed13e8c8e22f4e833f8a28e2edb1f4b678ad3e143", func := "loop.example/g01062/laws.FnExactLeastChange", spec := "fnExactLeastChange", unfollowed := true, recurses := true, apart := false, narrowed := true }
def FnExactLeastChangeUptoSaid : Prop := fnExactLeastChangeUptoRow.holds Try.pinned (OpenSpec.upto fnExactLeastChangeSpec)

/-- 'laws.FnExactCheapestChange', WHERE WHAT IT READS IS OF BULK AT MOST 1048576: true; the input reads as it did. -/
def fnExactCheapestChangeUptoRow : OpenClaim := { program := "ytihibckijdfidaa", sum := "931f114496397c249367e40ed13e8c8e22f4e833f8a28e2edb1f4b678ad3e143", func := "loop.example/g01062/laws.FnExactCheapestChange", spec := "fnExactCheapestChange", unfollowed := true, recurses := true, apart := false, narrowed := true }
def FnExactCheapestChangeUptoSaid : Prop := fnExactCheapestChangeUptoRow.holds Try.pinned (OpenSpec.upto fnExactCheapestChangeSpec)

/-- 'laws.FnExactNeededChanges', WHERE WHAT IT READS IS OF BULK AT MOST 1048576: true; the input reads as it did. -/
def fnExactNeededChangesUptoRow : OpenClaim := { program := "ytihibckijdfidaa", sum := "931f114496397c249367e40ed13e8c8e22f4e833f8a28e2edb1f4b678ad3e143", func := "loop.example/g01062/laws.FnExactNeededChanges", spec := "fnExactNeededChanges", recurses := true, apart := false, narrowed := true }
def FnExactNeededChangesUptoSaid : Prop := fnExactNeededChangesUptoRow.holds Try.pinned (OpenSpec.upto fnExactNeededChangesSpec)

/-- 'laws.FnExactChangeOf', WHERE WHAT IT READS IS OF BULK AT MOST 1048576: true; the input reads as it did. -/
def fnExactChangeOfUptoRow : OpenClaim := { program := "ytihibckijdfidaa", sum := "931f114496397c249367e40ed13e8c8e22f4e833f8a28e2edb1f4b678ad3e143", func := "loop.example/g01062/laws.FnExactChangeOf", spec := "fnExactChangeOf", apart := false, narrowed := true }
def FnExactChangeOfUptoSaid : Prop := fnExactChangeOfUptoRow.holds Try.pinned (OpenSpec.upto fnExactChangeOfSpec)

/-- 'laws.FnExactChangeText', WHERE WHAT IT READS IS OF BULK AT MOST 1048576: true; the input reads as it did. -/
def fnExactChangeTextUptoRow : OpenClaim := { program := "ytihibckijdfidaa", sum := "931f114496397c249367e40ed13e8c8e22f4e833f8a28e2edb1f4b678ad3e143", func := "loop.example/g01062/laws.FnExactChangeText", spec := "fnExactChangeText", inPlace := ["internal/abi.NoEscape", "internal/bytealg.MakeNoZero"], apart := false, narrowed := true }
def FnExactChangeTextUptoSaid : Prop := fnExactChangeTextUptoRow.holds Try.pinned (OpenSpec.upto fnExactChangeTextSpec)

/-- 'laws.FnBlocks', WHERE WHAT IT READS IS OF BULK AT MOST 1048576: true; the input reads as it did. -/
def fnBlocksUptoRow : OpenClaim := { program := "ytihibckijdfidaa", sum := "931f114496397c249367e40ed13e8c8e22f4e833f8a28e2edb1f4b678ad3e143", func := "loop.example/g01062/laws.FnBlocks", spec := "fnBlocks", inPlace := ["internal/bytealg.CountString", "internal/bytealg.IndexByteString", "internal/bytealg.IndexString", "internal/abi.NoEscape", "internal/bytealg.MakeNoZero"], named := ["internal/bytealg.MaxLen"], apart := false, narrowed := true }
def FnBlocksUptoSaid : Prop := fnBlocksUptoRow.holds Try.pinned (OpenSpec.upto fnBlocksSpec)

/-- 'laws.FnExactAddBan', WHERE WHAT IT READS IS OF BULK AT MOST 1048576: true; the input reads as it did. -/
def fnExactAddBanUptoRow : OpenClaim := { program := "ytihibckijdfidaa", sum := "931f114496397c249367e40ed13e8c8e22f4e833f8a28e2edb1f4b678ad3e143", func := "loop.example/g01062/laws.FnExactAddBan", spec := "fnExactAddBan", inPlace := ["slices.overlaps[loop.example/g01062/impl.Ban]"], unfollowed := true, recurses := true, apart := false, narrowed := true }
def FnExactAddBanUptoSaid : Prop := fnExactAddBanUptoRow.holds Try.pinned (OpenSpec.upto fnExactAddBanSpec)

/-- 'laws.FnExactLeastOver', WHERE WHAT IT READS IS OF BULK AT MOST 1048576: true; the input reads as it did. -/
def fnExactLeastOverUptoRow : OpenClaim := { program := "ytihibckijdfidaa", sum := "931f114496397c249367e40ed13e8c8e22f4e833f8a28e2edb1f4b678ad3e143", func := "loop.example/g01062/laws.FnExactLeastOver", spec := "fnExactLeastOver", unfollowed := true, recurses := true, apart := false, narrowed := true }
def FnExactLeastOverUptoSaid : Prop := fnExactLeastOverUptoRow.holds Try.pinned (OpenSpec.upto fnExactLeastOverSpec)

/-- 'laws.FnExactByColor', WHERE WHAT IT READS IS OF BULK AT MOST 1048576: true; the input reads as it did. -/
def fnExactByColorUptoRow : OpenClaim := { program := "ytihibckijdfidaa", sum := "931f114496397c249367e40ed13e8c8e22f4e833f8a28e2edb1f4b678ad3e143", func := "loop.example/g01062/laws.FnExactByColor", spec := "fnExactByColor", unfollowed := true, recurses := true, apart := false, narrowed := true }
def FnExactByColorUptoSaid : Prop := fnExactByColorUptoRow.holds Try.pinned (OpenSpec.upto fnExactByColorSpec)

end Rows
end Go.Proofs.Ytihibckijdfidaa
