/-
  No cell of these rows narrows 'for every input' (looked for: loops, veiled, ifaces, maps, wideKeys, modest, calm, conditions, laid).
  DERIVED. THE GIVEN ROWS OF THIS SEAT. 9 by the template 'for every input the law returns true; each argument reads behind the call as it read before'; 0 by the template 'total and deterministic' (their statements: YtgfepdfamhnppaaTotals.lean).
  GIVEN WITH THE SEED: the statements are not yours to turn. If you find one false, say at which input.
  Laid BY PROGRAM, IN A SANDBOX (cutbox-rows.mjs): the forced cells as the released guide's own fill.sh prints them over the translation bfd8e848e7cb9b31… (all of the seat's roots in one cut). By AI agents, Wed Nov 11 2026. No macro, syntax, notation, axiom, sorry.
-/
import Derived.Test.YtgfepdfamhnppaaChecked
import GoSem.Claim
import GoSem.ClaimJoined
import GoSem.ClaimMapViews
import Derived.JoinedTies
import Derived.KernelRfl
namespace Go.Proofs.Ytgfepdfamhnppaa
/- THE CELL 'sum', in the pinned program and in every row, IS THE sha256 OF THE DUMP (.gsa) THAT YtgfepdfamhnppaaProg.lean LOADS. Nothing in Lean hashes anything: it is a label: what it is worth is what the hold of that sum in a sandbox is worth. -/
noncomputable def Try.pinned : Pinned := { name := "ytgfepdfamhnppaa", sum := "bfd8e848e7cb9b312beb50c28b0f0ab0110cd4d5767859f2ffca779237a49e0f", checked := Try.checked }
namespace Rows
def none {H : Type} : Left H := { results := [], args := [] }

/-- 'laws.FnExactAreCombs': WHATEVER THE INPUT: true; the input reads as it did. -/
def fnExactAreCombsSpec : ChangeSpec := { name := "fnExactAreCombs", fn := fun _ => fun
  | [d] => { results := [.lit (.bool true)], args := [d] }
  | _ => none }
def fnExactAreCombsRow : OpenClaim := { program := "ytgfepdfamhnppaa", sum := "bfd8e848e7cb9b312beb50c28b0f0ab0110cd4d5767859f2ffca779237a49e0f", func := "loop.example/g01062/laws.FnExactAreCombs", spec := "fnExactAreCombs", unfollowed := true, recurses := true, apart := false }
def FnExactAreCombsSaid : Prop := fnExactAreCombsRow.holds Try.pinned (OpenSpec.ofChange fnExactAreCombsSpec)

/-- ITS FALSE NEIGHBOUR: 'it returns false'. Refute it at one input. -/
def fnExactAreCombsWrong : ChangeSpec := { name := "fnExactAreCombs", fn := fun _ => fun
  | [d] => { results := [.lit (.bool false)], args := [d] }
  | _ => none }
def FnExactAreCombsWrongFalsely : Prop := fnExactAreCombsRow.holds Try.pinned (OpenSpec.ofChange fnExactAreCombsWrong)

/-- 'laws.FnExactGaugeOf': WHATEVER THE INPUT: true; the input reads as it did. -/
def fnExactGaugeOfSpec : ChangeSpec := { name := "fnExactGaugeOf", fn := fun _ => fun
  | [d] => { results := [.lit (.bool true)], args := [d] }
  | _ => none }
def fnExactGaugeOfRow : OpenClaim := { program := "ytgfepdfamhnppaa", sum := "bfd8e848e7cb9b312beb50c28b0f0ab0110cd4d5767859f2ffca779237a49e0f", func := "loop.example/g01062/laws.FnExactGaugeOf", spec := "fnExactGaugeOf", apart := false }
def FnExactGaugeOfSaid : Prop := fnExactGaugeOfRow.holds Try.pinned (OpenSpec.ofChange fnExactGaugeOfSpec)

/-- ITS FALSE NEIGHBOUR: 'it returns false'. Refute it at one input. -/
def fnExactGaugeOfWrong : ChangeSpec := { name := "fnExactGaugeOf", fn := fun _ => fun
  | [d] => { results := [.lit (.bool false)], args := [d] }
  | _ => none }
def FnExactGaugeOfWrongFalsely : Prop := fnExactGaugeOfRow.holds Try.pinned (OpenSpec.ofChange fnExactGaugeOfWrong)

/-- 'laws.FnExactAreEven': WHATEVER THE INPUT: true; the input reads as it did. -/
def fnExactAreEvenSpec : ChangeSpec := { name := "fnExactAreEven", fn := fun _ => fun
  | [d] => { results := [.lit (.bool true)], args := [d] }
  | _ => none }
def fnExactAreEvenRow : OpenClaim := { program := "ytgfepdfamhnppaa", sum := "bfd8e848e7cb9b312beb50c28b0f0ab0110cd4d5767859f2ffca779237a49e0f", func := "loop.example/g01062/laws.FnExactAreEven", spec := "fnExactAreEven", apart := false }
def FnExactAreEvenSaid : Prop := fnExactAreEvenRow.holds Try.pinned (OpenSpec.ofChange fnExactAreEvenSpec)

/-- ITS FALSE NEIGHBOUR: 'it returns false'. Refute it at one input. -/
def fnExactAreEvenWrong : ChangeSpec := { name := "fnExactAreEven", fn := fun _ => fun
  | [d] => { results := [.lit (.bool false)], args := [d] }
  | _ => none }
def FnExactAreEvenWrongFalsely : Prop := fnExactAreEvenRow.holds Try.pinned (OpenSpec.ofChange fnExactAreEvenWrong)

/-- 'laws.FnExactMissingHoles': WHATEVER THE INPUT: true; the input reads as it did. -/
def fnExactMissingHolesSpec : ChangeSpec := { name := "fnExactMissingHoles", fn := fun _ => fun
  | [d1, d2] => { results := [.lit (.bool true)], args := [d1, d2] }
  | _ => none }
def fnExactMissingHolesRow : OpenClaim := { program := "ytgfepdfamhnppaa", sum := "bfd8e848e7cb9b312beb50c28b0f0ab0110cd4d5767859f2ffca779237a49e0f", func := "loop.example/g01062/laws.FnExactMissingHoles", spec := "fnExactMissingHoles", apart := false }
def FnExactMissingHolesSaid : Prop := fnExactMissingHolesRow.holds Try.pinned (OpenSpec.ofChange fnExactMissingHolesSpec)

/-- ITS FALSE NEIGHBOUR: 'it returns false'. Refute it at one input. -/
def fnExactMissingHolesWrong : ChangeSpec := { name := "fnExactMissingHoles", fn := fun _ => fun
  | [d1, d2] => { results := [.lit (.bool false)], args := [d1, d2] }
  | _ => none }
def FnExactMissingHolesWrongFalsely : Prop := fnExactMissingHolesRow.holds Try.pinned (OpenSpec.ofChange fnExactMissingHolesWrong)

/-- 'laws.FnExactMatchCombs': WHATEVER THE INPUT: true; the input reads as it did. -/
def fnExactMatchCombsSpec : ChangeSpec := { name := "fnExactMatchCombs", fn := fun _ => fun
  | [d1, d2, d3, d4] => { results := [.lit (.bool true)], args := [d1, d2, d3, d4] }
  | _ => none }
def fnExactMatchCombsRow : OpenClaim := { program := "ytgfepdfamhnppaa", sum := "bfd8e848e7cb9b312beb50c28b0f0ab0110cd4d5767859f2ffca779237a49e0f", func := "loop.example/g01062/laws.FnExactMatchCombs", spec := "fnExactMatchCombs", unfollowed := true, recurses := true, apart := false }
def FnExactMatchCombsSaid : Prop := fnExactMatchCombsRow.holds Try.pinned (OpenSpec.ofChange fnExactMatchCombsSpec)

/-- ITS FALSE NEIGHBOUR: 'it returns false'. Refute it at one input. -/
def fnExactMatchCombsWrong : ChangeSpec := { name := "fnExactMatchCombs", fn := fun _ => fun
  | [d1, d2, d3, d4] => { results := [.lit (.bool false)], args := [d1, d2, d3, d4] }
  | _ => none }
def FnExactMatchCombsWrongFalsely : Prop := fnExactMatchCombsRow.holds Try.pinned (OpenSpec.ofChange fnExactMatchCombsWrong)

/-- 'laws.FnExactTurnedCombs': WHATEVER THE INPUT: true; the input reads as it did. -/
def fnExactTurnedCombsSpec : ChangeSpec := { name := "fnExactTurnedCombs", fn := fun _ => fun
  | [d1, d2, d3, d4] => { results := [.lit (.bool true)], args := [d1, d2, d3, d4] }
  | _ => none }
def fnExactTurnedCombsRow : OpenClaim := { program := "ytgfepdfamhnppaa", sum := "bfd8e848e7cb9b312beb50c28b0f0ab0110cd4d5767859f2ffca779237a49e0f", func := "loop.example/g01062/laws.FnExactTurnedCombs", spec := "fnExactTurnedCombs", unfollowed := true, recurses := true, apart := false }
def FnExactTurnedCombsSaid : Prop := fnExactTurnedCombsRow.holds Try.pinned (OpenSpec.ofChange fnExactTurnedCombsSpec)

/-- ITS FALSE NEIGHBOUR: 'it returns false'. Refute it at one input. -/
def fnExactTurnedCombsWrong : ChangeSpec := { name := "fnExactTurnedCombs", fn := fun _ => fun
  | [d1, d2, d3, d4] => { results := [.lit (.bool false)], args := [d1, d2, d3, d4] }
  | _ => none }
def FnExactTurnedCombsWrongFalsely : Prop := fnExactTurnedCombsRow.holds Try.pinned (OpenSpec.ofChange fnExactTurnedCombsWrong)

/-- 'laws.FnExactHolesOn': WHATEVER THE INPUT: true; the input reads as it did. -/
def fnExactHolesOnSpec : ChangeSpec := { name := "fnExactHolesOn", fn := fun _ => fun
  | [d1, d2] => { results := [.lit (.bool true)], args := [d1, d2] }
  | _ => none }
def fnExactHolesOnRow : OpenClaim := { program := "ytgfepdfamhnppaa", sum := "bfd8e848e7cb9b312beb50c28b0f0ab0110cd4d5767859f2ffca779237a49e0f", func := "loop.example/g01062/laws.FnExactHolesOn", spec := "fnExactHolesOn", apart := false }
def FnExactHolesOnSaid : Prop := fnExactHolesOnRow.holds Try.pinned (OpenSpec.ofChange fnExactHolesOnSpec)

/-- ITS FALSE NEIGHBOUR: 'it returns false'. Refute it at one input. -/
def fnExactHolesOnWrong : ChangeSpec := { name := "fnExactHolesOn", fn := fun _ => fun
  | [d1, d2] => { results := [.lit (.bool false)], args := [d1, d2] }
  | _ => none }
def FnExactHolesOnWrongFalsely : Prop := fnExactHolesOnRow.holds Try.pinned (OpenSpec.ofChange fnExactHolesOnWrong)

/-- 'laws.FnExactIsPair': WHATEVER THE INPUT: true; the input reads as it did. -/
def fnExactIsPairSpec : ChangeSpec := { name := "fnExactIsPair", fn := fun _ => fun
  | [d1, d2, d3] => { results := [.lit (.bool true)], args := [d1, d2, d3] }
  | _ => none }
def fnExactIsPairRow : OpenClaim := { program := "ytgfepdfamhnppaa", sum := "bfd8e848e7cb9b312beb50c28b0f0ab0110cd4d5767859f2ffca779237a49e0f", func := "loop.example/g01062/laws.FnExactIsPair", spec := "fnExactIsPair", apart := false }
def FnExactIsPairSaid : Prop := fnExactIsPairRow.holds Try.pinned (OpenSpec.ofChange fnExactIsPairSpec)

/-- ITS FALSE NEIGHBOUR: 'it returns false'. Refute it at one input. -/
def fnExactIsPairWrong : ChangeSpec := { name := "fnExactIsPair", fn := fun _ => fun
  | [d1, d2, d3] => { results := [.lit (.bool false)], args := [d1, d2, d3] }
  | _ => none }
def FnExactIsPairWrongFalsely : Prop := fnExactIsPairRow.holds Try.pinned (OpenSpec.ofChange fnExactIsPairWrong)

/-- 'laws.FnExactSameGauges': WHATEVER THE INPUT: true; the input reads as it did. -/
def fnExactSameGaugesSpec : ChangeSpec := { name := "fnExactSameGauges", fn := fun _ => fun
  | [d] => { results := [.lit (.bool true)], args := [d] }
  | _ => none }
def fnExactSameGaugesRow : OpenClaim := { program := "ytgfepdfamhnppaa", sum := "bfd8e848e7cb9b312beb50c28b0f0ab0110cd4d5767859f2ffca779237a49e0f", func := "loop.example/g01062/laws.FnExactSameGauges", spec := "fnExactSameGauges", unfollowed := true, recurses := true, apart := false }
def FnExactSameGaugesSaid : Prop := fnExactSameGaugesRow.holds Try.pinned (OpenSpec.ofChange fnExactSameGaugesSpec)

/-- ITS FALSE NEIGHBOUR: 'it returns false'. Refute it at one input. -/
def fnExactSameGaugesWrong : ChangeSpec := { name := "fnExactSameGauges", fn := fun _ => fun
  | [d] => { results := [.lit (.bool false)], args := [d] }
  | _ => none }
def FnExactSameGaugesWrongFalsely : Prop := fnExactSameGaugesRow.holds Try.pinned (OpenSpec.ofChange fnExactSameGaugesWrong)

/- THE SECOND FORM. 'bulk': how many values and letters a reading holds, each counted each time it is reached (what is shared counts as often as it is met; a slice's spare places count too). A statement '..UptoSaid' is the law's where the arguments, and the package variables that the reading takes, are together of bulk at most 1048576: NARROWER than '..Said'. Prove '..Said' where nothing that the law and all that it calls make is longer than what came in: it says more and counts as full. Else prove '..UptoSaid'. A law counts once. -/
mutual
def uptoBulk {H : Type} : DataW H → Nat
  | .lit (.string bytes) => bytes.length + 1
  | .lit _ => 1
  | .nil => 1
  | .ptr d => uptoBulk d + 1
  | .slice elems spare => uptoBulkAll elems + uptoBulkAll spare + 1
  | .agg parts => uptoBulkAll parts + 1
  | .iface _ d => uptoBulk d + 1
  | .map entries => uptoBulkEntries entries + 1
  | .held _ => 1
def uptoBulkAll {H : Type} : List (DataW H) → Nat
  | [] => 0
  | d :: r => uptoBulk d + uptoBulkAll r
def uptoBulkEntries {H : Type} : List (Lit × DataW H) → Nat
  | [] => 0
  | x :: r => uptoBulkEntry x + uptoBulkEntries r
def uptoBulkEntry {H : Type} : Lit × DataW H → Nat
  | (.string bytes, d) => bytes.length + uptoBulk d + 1
  | (_, d) => uptoBulk d + 1
 end
def uptoSmall : (H : Type) → List (DataW H) → Bool := fun _ ds => decide (uptoBulkAll ds ≤ 1048576)
def OpenSpec.upto (s : _root_.Go.ChangeSpec) : _root_.Go.OpenSpec := { _root_.Go.OpenSpec.ofChange s with cond := some uptoSmall }

/-- 'laws.FnExactAreCombs', WHERE WHAT IT READS IS OF BULK AT MOST 1048576: true; the input reads as it did. -/
def fnExactAreCombsUptoRow : OpenClaim := { program := "ytgfepdfamhnppaa", sum := "bfd8e848e7cb9b312beb50c28b0f0ab0110cd4d5767859f2ffca779237a49e0f", func := "loop.example/g01062/laws.FnExactAreCombs", spec := "fnExactAreCombs", unfollowed := true, recurses := true, apart := false, narrowed := true }
def FnExactAreCombsUptoSaid : Prop := fnExactAreCombsUptoRow.holds Try.pinned (OpenSpec.upto fnExactAreCombsSpec)

/-- 'laws.FnExactGaugeOf', WHERE WHAT IT READS IS OF BULK AT MOST 1048576: true; the input reads as it did. -/
def fnExactGaugeOfUptoRow : OpenClaim := { program := "ytgfepdfamhnppaa", sum := "bfd8e848e7cb9b312beb50c28b0f0ab0110cd4d5767859f2ffca779237a49e0f", func := "loop.example/g01062/laws.FnExactGaugeOf", spec := "fnExactGaugeOf", apart := false, narrowed := true }
def FnExactGaugeOfUptoSaid : Prop := fnExactGaugeOfUptoRow.holds Try.pinned (OpenSpec.upto fnExactGaugeOfSpec)

/-- 'laws.FnExactAreEven', WHERE WHAT IT READS IS OF BULK AT MOST 1048576: true; the input reads as it did. -/
def fnExactAreEvenUptoRow : OpenClaim := { program := "ytgfepdfamhnppaa", sum := "bfd8e848e7cb9b312beb50c28b0f0ab0110cd4d5767859f2ffca779237a49e0f", func := "loop.example/g01062/laws.FnExactAreEven", spec := "fnExactAreEven", apart := false, narrowed := true }
def FnExactAreEvenUptoSaid : Prop := fnExactAreEvenUptoRow.holds Try.pinned (OpenSpec.upto fnExactAreEvenSpec)

/-- 'laws.FnExactMissingHoles', WHERE WHAT IT READS IS OF BULK AT MOST 1048576: true; the input reads as it did. -/
def fnExactMissingHolesUptoRow : OpenClaim := { program := "ytgfepdfamhnppaa", sum := "bfd8e848e7cb9b312beb50c28b0f0ab0110cd4d5767859f2ffca779237a49e0f", func := "loop.example/g01062/laws.FnExactMissingHoles", spec := "fnExactMissingHoles", apart := false, narrowed := true }
def FnExactMissingHolesUptoSaid : Prop := fnExactMissingHolesUptoRow.holds Try.pinned (OpenSpec.upto fnExactMissingHolesSpec)

/-- 'laws.FnExactMatchCombs', WHERE WHAT IT READS IS OF BULK AT MOST 1048576: true; the input reads as it did. -/
def fnExactMatchCombsUptoRow : OpenClaim := { program := "ytgfepdfamhnppaa", sum := "bfd8e848e7cb9b312beb50c28b0f0ab0110cd4d5767859f2ffca779237a49e0f", func := "loop.example/g01062/laws.FnExactMatchCombs", spec := "fnExactMatchCombs", unfollowed := true, recurses := true, apart := false, narrowed := true }
def FnExactMatchCombsUptoSaid : Prop := fnExactMatchCombsUptoRow.holds Try.pinned (OpenSpec.upto fnExactMatchCombsSpec)

/-- 'laws.FnExactTurnedCombs', WHERE WHAT IT READS IS OF BULK AT MOST 1048576: true; the input reads as it did. -/
def fnExactTurnedCombsUptoRow : OpenClaim := { program := "ytgfepdfamhnppaa", sum := "bfd8e848e7cb9b312beb50c28b0f0ab0110cd4d5767859f2ffca779237a49e0f", func := "loop.example/g01062/laws.FnExactTurnedCombs", spec := "fnExactTurnedCombs", unfollowed := true, recurses := true, apart := false, narrowed := true }
def FnExactTurnedCombsUptoSaid : Prop := fnExactTurnedCombsUptoRow.holds Try.pinned (OpenSpec.upto fnExactTurnedCombsSpec)

/-- 'laws.FnExactHolesOn', WHERE WHAT IT READS IS OF BULK AT MOST 1048576: true; the input reads as it did. -/
def fnExactHolesOnUptoRow : OpenClaim := { program := "ytgfepdfamhnppaa", sum := "bfd8e848e7cb9b312beb50c28b0f0ab0110cd4d5767859f2ffca779237a49e0f", func := "loop.example/g01062/laws.FnExactHolesOn", spec := "fnExactHolesOn", apart := false, narrowed := true }
def FnExactHolesOnUptoSaid : Prop := fnExactHolesOnUptoRow.holds Try.pinned (OpenSpec.upto fnExactHolesOnSpec)

/-- 'laws.FnExactIsPair', WHERE WHAT IT READS IS OF BULK AT MOST 1048576: true; the input reads as it did. -/
def fnExactIsPairUptoRow : OpenClaim := { program := "ytgfepdfamhnppaa", sum := "bfd8e848e7cb9b312beb50c28b0f0ab0110cd4d5767859f2ffca779237a49e0f", func := "loop.example/g01062/laws.FnExactIsPair", spec := "fnExactIsPair", apart := false, narrowed := true }
def FnExactIsPairUptoSaid : Prop := fnExactIsPairUptoRow.holds Try.pinned (OpenSpec.upto fnExactIsPairSpec)

/-- 'laws.FnExactSameGauges', WHERE WHAT IT READS IS OF BULK AT MOST 1048576: true; the input reads as it did. -/
def fnExactSameGaugesUptoRow : OpenClaim := { program := "ytgfepdfamhnppaa", sum := "bfd8e848e7cb9b312beb50c28b0f0ab0110cd4d5767859f2ffca779237a49e0f", func := "loop.example/g01062/laws.FnExactSameGauges", spec := "fnExactSameGauges", unfollowed := true, recurses := true, apart := false, narrowed := true }
def FnExactSameGaugesUptoSaid : Prop := fnExactSameGaugesUptoRow.holds Try.pinned (OpenSpec.upto fnExactSameGaugesSpec)

end Rows
end Go.Proofs.Ytgfepdfamhnppaa
