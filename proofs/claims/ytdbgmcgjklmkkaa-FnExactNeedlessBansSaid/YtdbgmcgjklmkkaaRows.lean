/-
  No cell of these rows narrows 'for every input' (looked for: loops, veiled, ifaces, maps, wideKeys, modest, calm, conditions, laid).
  DERIVED. THE GIVEN ROWS OF THIS SEAT. 9 by the template 'for every input the law returns true; each argument reads behind the call as it read before'; 0 by the template 'total and deterministic' (their statements: YtdbgmcgjklmkkaaTotals.lean).
  GIVEN WITH THE SEED: the statements are not yours to turn. If you find one false, say at which input.
  Laid BY PROGRAM, IN A SANDBOX (cutbox-rows.mjs): the forced cells as the released guide's own fill.sh prints them over the translation 5825925681f49de7… (all of the seat's roots in one cut). By AI agents, Wed Nov 11 2026. No macro, syntax, notation, axiom, sorry.
-/
import Derived.Test.YtdbgmcgjklmkkaaChecked
import GoSem.Claim
import GoSem.ClaimJoined
import GoSem.ClaimMapViews
import Derived.JoinedTies
import Derived.KernelRfl
namespace Go.Proofs.Ytdbgmcgjklmkkaa
/- THE CELL 'sum', in the pinned program and in every row, IS THE sha256 OF THE DUMP (.gsa) THAT YtdbgmcgjklmkkaaProg.lean LOADS. Nothing in Lean hashes anything: it is a label: what it is worth is what the hold of that sum in a sandbox is worth. -/
noncomputable def Try.pinned : Pinned := { name := "ytdbgmcgjklmkkaa", sum := "5825925681f49de74fd9ca53b690c0473135a2d849f173b1e19c45dee7d7955a", checked := Try.checked }
namespace Rows
def none {H : Type} : Left H := { results := [], args := [] }

/-- 'laws.FnExactNeedlessBans': WHATEVER THE INPUT: true; the input reads as it did. -/
def fnExactNeedlessBansSpec : ChangeSpec := { name := "fnExactNeedlessBans", fn := fun _ => fun
  | [d] => { results := [.lit (.bool true)], args := [d] }
  | _ => none }
def fnExactNeedlessBansRow : OpenClaim := { program := "ytdbgmcgjklmkkaa", sum := "5825925681f49de74fd9ca53b690c0473135a2d849f173b1e19c45dee7d7955a", func := "loop.example/g01062/laws.FnExactNeedlessBans", spec := "fnExactNeedlessBans", apart := false }
def FnExactNeedlessBansSaid : Prop := fnExactNeedlessBansRow.holds Try.pinned (OpenSpec.ofChange fnExactNeedlessBansSpec)

/-- ITS FALSE NEIGHBOUR: 'it returns false'. Refute it at one input. -/
def fnExactNeedlessBansWrong : ChangeSpec := { name := "fnExactNeedlessBans", fn := fun _ => fun
  | [d] => { results := [.lit (.bool false)], args := [d] }
  | _ => none }
def FnExactNeedlessBansWrongFalsely : Prop := fnExactNeedlessBansRow.holds Try.pinned (OpenSpec.ofChange fnExactNeedlessBansWrong)

/-- 'laws.FnExactLeastOver': WHATEVER THE INPUT: true; the input reads as it did. -/
def fnExactLeastOverSpec : ChangeSpec := { name := "fnExactLeastOver", fn := fun _ => fun
  | [d1, d2, d3] => { results := [.lit (.bool true)], args := [d1, d2, d3] }
  | _ => none }
def fnExactLeastOverRow : OpenClaim := { program := "ytdbgmcgjklmkkaa", sum := "5825925681f49de74fd9ca53b690c0473135a2d849f173b1e19c45dee7d7955a", func := "loop.example/g01062/laws.FnExactLeastOver", spec := "fnExactLeastOver", unfollowed := true, recurses := true, apart := false }
def FnExactLeastOverSaid : Prop := fnExactLeastOverRow.holds Try.pinned (OpenSpec.ofChange fnExactLeastOverSpec)

/-- ITS FALSE NEIGHBOUR: 'it returns false'. Refute it at one input. -/
def fnExactLeastOverWrong : ChangeSpec := { name := "fnExactLeastOver", fn := fun _ => fun
  | [d1, d2, d3] => { results := [.lit (.bool false)], args := [d1, d2, d3] }
  | _ => none }
def FnExactLeastOverWrongFalsely : Prop := fnExactLeastOverRow.holds Try.pinned (OpenSpec.ofChange fnExactLeastOverWrong)

/-- 'laws.FnExactByColor': WHATEVER THE INPUT: true; the input reads as it did. -/
def fnExactByColorSpec : ChangeSpec := { name := "fnExactByColor", fn := fun _ => fun
  | [d] => { results := [.lit (.bool true)], args := [d] }
  | _ => none }
def fnExactByColorRow : OpenClaim := { program := "ytdbgmcgjklmkkaa", sum := "5825925681f49de74fd9ca53b690c0473135a2d849f173b1e19c45dee7d7955a", func := "loop.example/g01062/laws.FnExactByColor", spec := "fnExactByColor", unfollowed := true, recurses := true, apart := false }
def FnExactByColorSaid : Prop := fnExactByColorRow.holds Try.pinned (OpenSpec.ofChange fnExactByColorSpec)

/-- ITS FALSE NEIGHBOUR: 'it returns false'. Refute it at one input. -/
def fnExactByColorWrong : ChangeSpec := { name := "fnExactByColor", fn := fun _ => fun
  | [d] => { results := [.lit (.bool false)], args := [d] }
  | _ => none }
def FnExactByColorWrongFalsely : Prop := fnExactByColorRow.holds Try.pinned (OpenSpec.ofChange fnExactByColorWrong)

/-- 'laws.FnExactMarkNames': WHATEVER THE INPUT: true; the input reads as it did. -/
def fnExactMarkNamesSpec : ChangeSpec := { name := "fnExactMarkNames", fn := fun _ => fun
  | [d] => { results := [.lit (.bool true)], args := [d] }
  | _ => none }
def fnExactMarkNamesRow : OpenClaim := { program := "ytdbgmcgjklmkkaa", sum := "5825925681f49de74fd9ca53b690c0473135a2d849f173b1e19c45dee7d7955a", func := "loop.example/g01062/laws.FnExactMarkNames", spec := "fnExactMarkNames", unfollowed := true, recurses := true, apart := false }
def FnExactMarkNamesSaid : Prop := fnExactMarkNamesRow.holds Try.pinned (OpenSpec.ofChange fnExactMarkNamesSpec)

/-- ITS FALSE NEIGHBOUR: 'it returns false'. Refute it at one input. -/
def fnExactMarkNamesWrong : ChangeSpec := { name := "fnExactMarkNames", fn := fun _ => fun
  | [d] => { results := [.lit (.bool false)], args := [d] }
  | _ => none }
def FnExactMarkNamesWrongFalsely : Prop := fnExactMarkNamesRow.holds Try.pinned (OpenSpec.ofChange fnExactMarkNamesWrong)

/-- 'laws.FnExactLayBlock': WHATEVER THE INPUT: true; the input reads as it did. -/
def fnExactLayBlockSpec : ChangeSpec := { name := "fnExactLayBlock", fn := fun _ => fun
  | [d1, d2, d3, d4] => { results := [.lit (.bool true)], args := [d1, d2, d3, d4] }
  | _ => none }
def fnExactLayBlockRow : OpenClaim := { program := "ytdbgmcgjklmkkaa", sum := "5825925681f49de74fd9ca53b690c0473135a2d849f173b1e19c45dee7d7955a", func := "loop.example/g01062/laws.FnExactLayBlock", spec := "fnExactLayBlock", apart := false }
def FnExactLayBlockSaid : Prop := fnExactLayBlockRow.holds Try.pinned (OpenSpec.ofChange fnExactLayBlockSpec)

/-- ITS FALSE NEIGHBOUR: 'it returns false'. Refute it at one input. -/
def fnExactLayBlockWrong : ChangeSpec := { name := "fnExactLayBlock", fn := fun _ => fun
  | [d1, d2, d3, d4] => { results := [.lit (.bool false)], args := [d1, d2, d3, d4] }
  | _ => none }
def FnExactLayBlockWrongFalsely : Prop := fnExactLayBlockRow.holds Try.pinned (OpenSpec.ofChange fnExactLayBlockWrong)

/-- 'laws.FnExactFirstRebuilding': WHATEVER THE INPUT: true; the input reads as it did. -/
def fnExactFirstRebuildingSpec : ChangeSpec := { name := "fnExactFirstRebuilding", fn := fun _ => fun
  | [d1, d2, d3] => { results := [.lit (.bool true)], args := [d1, d2, d3] }
  | _ => none }
def fnExactFirstRebuildingRow : OpenClaim := { program := "ytdbgmcgjklmkkaa", sum := "5825925681f49de74fd9ca53b690c0473135a2d849f173b1e19c45dee7d7955a", func := "loop.example/g01062/laws.FnExactFirstRebuilding", spec := "fnExactFirstRebuilding", inPlace := ["internal/abi.NoEscape", "internal/bytealg.MakeNoZero"], unfollowed := true, recurses := true, apart := false }
def FnExactFirstRebuildingSaid : Prop := fnExactFirstRebuildingRow.holds Try.pinned (OpenSpec.ofChange fnExactFirstRebuildingSpec)

/-- ITS FALSE NEIGHBOUR: 'it returns false'. Refute it at one input. -/
def fnExactFirstRebuildingWrong : ChangeSpec := { name := "fnExactFirstRebuilding", fn := fun _ => fun
  | [d1, d2, d3] => { results := [.lit (.bool false)], args := [d1, d2, d3] }
  | _ => none }
def FnExactFirstRebuildingWrongFalsely : Prop := fnExactFirstRebuildingRow.holds Try.pinned (OpenSpec.ofChange fnExactFirstRebuildingWrong)

/-- 'laws.FnExactCountRebuildings': WHATEVER THE INPUT: true; the input reads as it did. -/
def fnExactCountRebuildingsSpec : ChangeSpec := { name := "fnExactCountRebuildings", fn := fun _ => fun
  | [d1, d2, d3, d4] => { results := [.lit (.bool true)], args := [d1, d2, d3, d4] }
  | _ => none }
def fnExactCountRebuildingsRow : OpenClaim := { program := "ytdbgmcgjklmkkaa", sum := "5825925681f49de74fd9ca53b690c0473135a2d849f173b1e19c45dee7d7955a", func := "loop.example/g01062/laws.FnExactCountRebuildings", spec := "fnExactCountRebuildings", inPlace := ["internal/abi.NoEscape", "internal/bytealg.MakeNoZero"], unfollowed := true, recurses := true, apart := false }
def FnExactCountRebuildingsSaid : Prop := fnExactCountRebuildingsRow.holds Try.pinned (OpenSpec.ofChange fnExactCountRebuildingsSpec)

/-- ITS FALSE NEIGHBOUR: 'it returns false'. Refute it at one input. -/
def fnExactCountRebuildingsWrong : ChangeSpec := { name := "fnExactCountRebuildings", fn := fun _ => fun
  | [d1, d2, d3, d4] => { results := [.lit (.bool false)], args := [d1, d2, d3, d4] }
  | _ => none }
def FnExactCountRebuildingsWrongFalsely : Prop := fnExactCountRebuildingsRow.holds Try.pinned (OpenSpec.ofChange fnExactCountRebuildingsWrong)

/-- 'laws.FnExactFullestRebuilding': WHATEVER THE INPUT: true; the input reads as it did. -/
def fnExactFullestRebuildingSpec : ChangeSpec := { name := "fnExactFullestRebuilding", fn := fun _ => fun
  | [d1, d2, d3] => { results := [.lit (.bool true)], args := [d1, d2, d3] }
  | _ => none }
def fnExactFullestRebuildingRow : OpenClaim := { program := "ytdbgmcgjklmkkaa", sum := "5825925681f49de74fd9ca53b690c0473135a2d849f173b1e19c45dee7d7955a", func := "loop.example/g01062/laws.FnExactFullestRebuilding", spec := "fnExactFullestRebuilding", inPlace := ["internal/abi.NoEscape", "internal/bytealg.MakeNoZero", "internal/bytealg.CountString", "internal/bytealg.IndexByteString", "internal/bytealg.IndexString"], unfollowed := true, recurses := true, named := ["internal/bytealg.MaxLen"], apart := false }
def FnExactFullestRebuildingSaid : Prop := fnExactFullestRebuildingRow.holds Try.pinned (OpenSpec.ofChange fnExactFullestRebuildingSpec)

/-- ITS FALSE NEIGHBOUR: 'it returns false'. Refute it at one input. -/
def fnExactFullestRebuildingWrong : ChangeSpec := { name := "fnExactFullestRebuilding", fn := fun _ => fun
  | [d1, d2, d3] => { results := [.lit (.bool false)], args := [d1, d2, d3] }
  | _ => none }
def FnExactFullestRebuildingWrongFalsely : Prop := fnExactFullestRebuildingRow.holds Try.pinned (OpenSpec.ofChange fnExactFullestRebuildingWrong)

/-- 'laws.FnExactAddBan': WHATEVER THE INPUT: true; the input reads as it did. -/
def fnExactAddBanSpec : ChangeSpec := { name := "fnExactAddBan", fn := fun _ => fun
  | [d1, d2] => { results := [.lit (.bool true)], args := [d1, d2] }
  | _ => none }
def fnExactAddBanRow : OpenClaim := { program := "ytdbgmcgjklmkkaa", sum := "5825925681f49de74fd9ca53b690c0473135a2d849f173b1e19c45dee7d7955a", func := "loop.example/g01062/laws.FnExactAddBan", spec := "fnExactAddBan", inPlace := ["slices.overlaps[loop.example/g01062/impl.Ban]"], unfollowed := true, recurses := true, apart := false }
def FnExactAddBanSaid : Prop := fnExactAddBanRow.holds Try.pinned (OpenSpec.ofChange fnExactAddBanSpec)

/-- ITS FALSE NEIGHBOUR: 'it returns false'. Refute it at one input. -/
def fnExactAddBanWrong : ChangeSpec := { name := "fnExactAddBan", fn := fun _ => fun
  | [d1, d2] => { results := [.lit (.bool false)], args := [d1, d2] }
  | _ => none }
def FnExactAddBanWrongFalsely : Prop := fnExactAddBanRow.holds Try.pinned (OpenSpec.ofChange fnExactAddBanWrong)

/- THE SECOND FORM. 'bulk': how many values and letters a reading holds, each counted each time it is reached (what is shared counts as often as it is met; a slice's spare places count too). A statement '..UptoSaid' is the law's where the arguments, and the package variables that the reading takes, are together of bulk at most 1048576: NARROWER than '..Said'. Prove '..Said' where nothing that the law and all that it calls make is longer than what came in: it says more and counts as full. Else prove '..UptoSaid'. A law counts once. -/
mutual
def uptoBulk {H : Type} : DataW H → Nat
  | .lit (.string bytes) => bytes.length + 1
  | .lit _ => 1
  | .nil => 1
  | .ptr d => uptoBulk d + 1
  | .slice elems spare => uptoBulkAll elems + uptoBulkAll spare + 1
  | .agg parts => uptoBulkAll parts + 1
  | .iface _ d => uptoBulk d + 1
  | .map entries => uptoBulkEntries entries + 1
  | .held _ => 1
def uptoBulkAll {H : Type} : List (DataW H) → Nat
  | [] => 0
  | d :: r => uptoBulk d + uptoBulkAll r
def uptoBulkEntries {H : Type} : List (Lit × DataW H) → Nat
  | [] => 0
  | x :: r => uptoBulkEntry x + uptoBulkEntries r
def uptoBulkEntry {H : Type} : Lit × DataW H → Nat
  | (.string bytes, d) => bytes.length + uptoBulk d + 1
  | (_, d) => uptoBulk d + 1
 end
def uptoSmall : (H : Type) → List (DataW H) → Bool := fun _ ds => decide (uptoBulkAll ds ≤ 1048576)
def OpenSpec.upto (s : _root_.Go.ChangeSpec) : _root_.Go.OpenSpec := { _root_.Go.OpenSpec.ofChange s with cond := some uptoSmall }

/-- 'laws.FnExactNeedlessBans', WHERE WHAT IT READS IS OF BULK AT MOST 1048576: true; the input reads as it did. -/
def fnExactNeedlessBansUptoRow : OpenClaim := { program := "ytdbgmcgjklmkkaa", sum := "5825925681f49de74fd9ca53b690c0473135a2d849f173b1e19c45dee7d7955a", func := "loop.example/g01062/laws.FnExactNeedlessBans", spec := "fnExactNeedlessBans", apart := false, narrowed := true }
def FnExactNeedlessBansUptoSaid : Prop := fnExactNeedlessBansUptoRow.holds Try.pinned (OpenSpec.upto fnExactNeedlessBansSpec)

/-- 'laws.FnExactLeastOver', WHERE WHAT IT READS IS OF BULK AT MOST 1048576: true; the input reads as it did. -/
def fnExactLeastOverUptoRow : OpenClaim := { program := "ytdbgmcgjklmkkaa", sum := "5825925681f49de74fd9ca53b690c0473135a2d849f173b1e19c45dee7d7955a", func := "loop.example/g01062/laws.FnExactLeastOver", spec := "fnExactLeastOver", unfollowed := true, recurses := true, apart := false, narrowed := true }
def FnExactLeastOverUptoSaid : Prop := fnExactLeastOverUptoRow.holds Try.pinned (OpenSpec.upto fnExactLeastOverSpec)

/-- 'laws.FnExactByColor', WHERE WHAT IT READS IS OF BULK AT MOST 1048576: true; the input reads as it did. -/
def fnExactByColorUptoRow : OpenClaim := { program := "ytdbgmcgjklmkkaa", sum := "5825925681f49de74fd9ca53b690c0473135a2d849f173b1e19c45dee7d7955a", func := "loop.example/g01062/laws.FnExactByColor", spec := "fnExactByColor", unfollowed := true, recurses := true, apart := false, narrowed := true }
def FnExactByColorUptoSaid : Prop := fnExactByColorUptoRow.holds Try.pinned (OpenSpec.upto fnExactByColorSpec)

/-- 'laws.FnExactMarkNames', WHERE WHAT IT READS IS OF BULK AT MOST 1048576: true; the input reads as it did. -/
def fnExactMarkNamesUptoRow : OpenClaim := { program := "ytdbgmcgjklmkkaa", sum := "5825925681f49de74fd9ca53b690c0473135a2d849f173b1e19c45dee7d7955a", func := "loop.example/g01062/laws.FnExactMarkNames", spec := "fnExactMarkNames", unfollowed := true, recurses := true, apart := false, narrowed := true }
def FnExactMarkNamesUptoSaid : Prop := fnExactMarkNamesUptoRow.holds Try.pinned (OpenSpec.upto fnExactMarkNamesSpec)

/-- 'laws.FnExactLayBlock', WHERE WHAT IT READS IS OF BULK AT MOST 1048576: true; the input reads as it did. -/
def fnExactLayBlockUptoRow : OpenClaim := { program := "ytdbgmcgjklmkkaa", sum := "5825925681f49de74fd9ca53b690c0473135a2d849f173b1e19c45dee7d7955a", func := "loop.example/g01062/laws.FnExactLayBlock", spec := "fnExactLayBlock", apart := false, narrowed := true }
def FnExactLayBlockUptoSaid : Prop := fnExactLayBlockUptoRow.holds Try.pinned (OpenSpec.upto fnExactLayBlockSpec)

/-- 'laws.FnExactFirstRebuilding', WHERE WHAT IT READS IS OF BULK AT MOST 1048576: true; the input reads as it did. -/
def fnExactFirstRebuildingUptoRow : OpenClaim := { program := "ytdbgmcgjklmkkaa", sum := "5825925681f49de74fd9ca53b690c0473135a2d849f173b1e19c45dee7d7955a", func := "loop.example/g01062/laws.FnExactFirstRebuilding", spec := "fnExactFirstRebuilding", inPlace := ["internal/abi.NoEscape", "internal/bytealg.MakeNoZero"], unfollowed := true, recurses := true, apart := false, narrowed := true }
def FnExactFirstRebuildingUptoSaid : Prop := fnExactFirstRebuildingUptoRow.holds Try.pinned (OpenSpec.upto fnExactFirstRebuildingSpec)

/-- 'laws.FnExactCountRebuildings', WHERE WHAT IT READS IS OF BULK AT MOST 1048576: true; the input reads as it did. -/
def fnExactCountRebuildingsUptoRow : OpenClaim := { program := "ytdbgmcgjklmkkaa", sum := "5825925681f49de74fd9ca53b690c0473135a2d849f173b1e19c45dee7d7955a", func := "loop.example/g01062/laws.FnExactCountRebuildings", spec := "fnExactCountRebuildings", inPlace := ["internal/abi.NoEscape", "internal/bytealg.MakeNoZero"], unfollowed := true, recurses := true, apart := false, narrowed := true }
def FnExactCountRebuildingsUptoSaid : Prop := fnExactCountRebuildingsUptoRow.holds Try.pinned (OpenSpec.upto fnExactCountRebuildingsSpec)

/-- 'laws.FnExactFullestRebuilding', WHERE WHAT IT READS IS OF BULK AT MOST 1048576: true; the input reads as it did. -/
def fnExactFullestRebuildingUptoRow : OpenClaim := { program := "ytdbgmcgjklmkkaa", sum := "5825925681f49de74fd9ca53b690c0473135a2d849f173b1e19c45dee7d7955a", func := "loop.example/g01062/laws.FnExactFullestRebuilding", spec := "fnExactFullestRebuilding", inPlace := ["internal/abi.NoEscape", "internal/bytealg.MakeNoZero", "internal/bytealg.CountString", "internal/bytealg.IndexByteString", "internal/bytealg.IndexString"], unfollowed := true, recurses := true, named := ["internal/bytealg.MaxLen"], apart := false, narrowed := true }
def FnExactFullestRebuildingUptoSaid : Prop := fnExactFullestRebuildingUptoRow.holds Try.pinned (OpenSpec.upto fnExactFullestRebuildingSpec)

/-- 'laws.FnExactAddBan', WHERE WHAT IT READS IS OF BULK AT MOST 1048576: true; the input reads as it did. -/
def fnExactAddBanUptoRow : OpenClaim := { program := "ytdbgmcgjklmkkaa", sum := "5825925681f49de74fd9ca53b690c0473135a2d849f173b1e19c45dee7d7955a", func := "loop.example/g01062/laws.FnExactAddBan", spec := "fnExactAddBan", inPlace := ["slices.overlaps[loop.example/g01062/impl.Ban]"], unfollowed := true, recurses := true, apart := false, narrowed := true }
def FnExactAddBanUptoSaid : Prop := fnExactAddBanUptoRow.holds Try.pinned (OpenSpec.upto fnExactAddBanSpec)

end Rows
end Go.Proofs.Ytdbgmcgjklmkkaa
