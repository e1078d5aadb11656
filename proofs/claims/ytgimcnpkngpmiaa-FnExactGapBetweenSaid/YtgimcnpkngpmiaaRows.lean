/-
  No cell of these rows narrows 'for every input' (looked for: loops, veiled, ifaces, maps, wideKeys, modest, calm, conditions, laid).
  DERIVED. THE GIVEN ROWS OF THIS SEAT. 9 by the template 'for every input the law returns true; each argument reads behind the call as it read before'; 0 by the template 'total and deterministic' (their statements: YtgimcnpkngpmiaaTotals.lean).
  GIVEN WITH THE SEED: the statements are not yours to turn. If you find one false, say at which input.
  Laid BY PROGRAM, IN A SANDBOX (cutbox-rows.mjs): the forced cells as the released guide's own fill.sh prints them over the translation 2e4f1c8993add694… (all of the seat's roots in one cut). By AI agents, Wed Nov 11 2026. No macro, syntax, notation, axiom, sorry.
-/
import Derived.Test.YtgimcnpkngpmiaaChecked
import GoSem.Claim
import GoSem.ClaimJoined
import GoSem.ClaimMapViews
import Derived.JoinedTies
import Derived.KernelRfl
namespace Go.Proofs.Ytgimcnpkngpmiaa
/- THE CELL 'sum', in the pinned program and in every row, IS THE sha256 OF THE DUMP (.gsa) THAT YtgimcnpkngpmiaaProg.lean LOADS. Nothing in Lean hashes anything: it is a label: what it is worth is what the hold of that sum in a sandbox is worth. -/
noncomputable def Try.pinned : Pinned := { name := "ytgimcnpkngpmiaa", sum := "2e4f1c8993add69467210981dc8e9dd4f5fe949c8808ce2ef64c6ba67fdd3dff", checked := Try.checked }
namespace Rows
def none {H : Type} : Left H := { results := [], args := [] }

/-- 'laws.FnExactIsPostmark': WHATEVER THE INPUT: true; the input reads as it did. -/
def fnExactIsPostmarkSpec : ChangeSpec := { name := "fnExactIsPostmark", fn := fun _ => fun
  | [d] => { results := [.lit (.bool true)], args := [d] }
  | _ => none }
def fnExactIsPostmarkRow : OpenClaim := { program := "ytgimcnpkngpmiaa", sum := "2e4f1c8993add69467210981dc8e9dd4f5fe949c8808ce2ef64c6ba67fdd3dff", func := "loop.example/g01062/laws.FnExactIsPostmark", spec := "fnExactIsPostmark", inPlace := ["internal/bytealg.CountString", "internal/bytealg.IndexByteString", "internal/bytealg.IndexString"], named := ["internal/bytealg.MaxLen"], apart := false }
def FnExactIsPostmarkSaid : Prop := fnExactIsPostmarkRow.holds Try.pinned (OpenSpec.ofChange fnExactIsPostmarkSpec)

/-- ITS FALSE NEIGHBOUR: 'it returns false'. Refute it at one input. -/
def fnExactIsPostmarkWrong : ChangeSpec := { name := "fnExactIsPostmark", fn := fun _ => fun
  | [d] => { results := [.lit (.bool false)], args := [d] }
  | _ => none }
def FnExactIsPostmarkWrongFalsely : Prop := fnExactIsPostmarkRow.holds Try.pinned (OpenSpec.ofChange fnExactIsPostmarkWrong)

/-- 'laws.FnExactArePostmarks': WHATEVER THE INPUT: true; the input reads as it did. -/
def fnExactArePostmarksSpec : ChangeSpec := { name := "fnExactArePostmarks", fn := fun _ => fun
  | [d] => { results := [.lit (.bool true)], args := [d] }
  | _ => none }
def fnExactArePostmarksRow : OpenClaim := { program := "ytgimcnpkngpmiaa", sum := "2e4f1c8993add69467210981dc8e9dd4f5fe949c8808ce2ef64c6ba67fdd3dff", func := "loop.example/g01062/laws.FnExactArePostmarks", spec := "fnExactArePostmarks", inPlace := ["internal/bytealg.CountString", "internal/bytealg.IndexByteString", "internal/bytealg.IndexString"], unfollowed := true, recurses := true, named := ["internal/bytealg.MaxLen"], apart := false }
def FnExactArePostmarksSaid : Prop := fnExactArePostmarksRow.holds Try.pinned (OpenSpec.ofChange fnExactArePostmarksSpec)

/-- ITS FALSE NEIGHBOUR: 'it returns false'. Refute it at one input. -/
def fnExactArePostmarksWrong : ChangeSpec := { name := "fnExactArePostmarks", fn := fun _ => fun
  | [d] => { results := [.lit (.bool false)], args := [d] }
  | _ => none }
def FnExactArePostmarksWrongFalsely : Prop := fnExactArePostmarksRow.holds Try.pinned (OpenSpec.ofChange fnExactArePostmarksWrong)

/-- 'laws.FnExactShownBy': WHATEVER THE INPUT: true; the input reads as it did. -/
def fnExactShownBySpec : ChangeSpec := { name := "fnExactShownBy", fn := fun _ => fun
  | [d] => { results := [.lit (.bool true)], args := [d] }
  | _ => none }
def fnExactShownByRow : OpenClaim := { program := "ytgimcnpkngpmiaa", sum := "2e4f1c8993add69467210981dc8e9dd4f5fe949c8808ce2ef64c6ba67fdd3dff", func := "loop.example/g01062/laws.FnExactShownBy", spec := "fnExactShownBy", inPlace := ["internal/bytealg.CountString", "internal/bytealg.IndexByteString", "internal/bytealg.IndexString"], named := ["internal/bytealg.MaxLen"], apart := false }
def FnExactShownBySaid : Prop := fnExactShownByRow.holds Try.pinned (OpenSpec.ofChange fnExactShownBySpec)

/-- ITS FALSE NEIGHBOUR: 'it returns false'. Refute it at one input. -/
def fnExactShownByWrong : ChangeSpec := { name := "fnExactShownBy", fn := fun _ => fun
  | [d] => { results := [.lit (.bool false)], args := [d] }
  | _ => none }
def FnExactShownByWrongFalsely : Prop := fnExactShownByRow.holds Try.pinned (OpenSpec.ofChange fnExactShownByWrong)

/-- 'laws.FnExactLoseLetter': WHATEVER THE INPUT: true; the input reads as it did. -/
def fnExactLoseLetterSpec : ChangeSpec := { name := "fnExactLoseLetter", fn := fun _ => fun
  | [d1, d2, d3] => { results := [.lit (.bool true)], args := [d1, d2, d3] }
  | _ => none }
def fnExactLoseLetterRow : OpenClaim := { program := "ytgimcnpkngpmiaa", sum := "2e4f1c8993add69467210981dc8e9dd4f5fe949c8808ce2ef64c6ba67fdd3dff", func := "loop.example/g01062/laws.FnExactLoseLetter", spec := "fnExactLoseLetter", inPlace := ["internal/bytealg.CountString", "internal/bytealg.IndexByteString", "internal/bytealg.IndexString"], unfollowed := true, recurses := true, named := ["internal/bytealg.MaxLen"], apart := false }
def FnExactLoseLetterSaid : Prop := fnExactLoseLetterRow.holds Try.pinned (OpenSpec.ofChange fnExactLoseLetterSpec)

/-- ITS FALSE NEIGHBOUR: 'it returns false'. Refute it at one input. -/
def fnExactLoseLetterWrong : ChangeSpec := { name := "fnExactLoseLetter", fn := fun _ => fun
  | [d1, d2, d3] => { results := [.lit (.bool false)], args := [d1, d2, d3] }
  | _ => none }
def FnExactLoseLetterWrongFalsely : Prop := fnExactLoseLetterRow.holds Try.pinned (OpenSpec.ofChange fnExactLoseLetterWrong)

/-- 'laws.FnExactLatestUse': WHATEVER THE INPUT: true; the input reads as it did. -/
def fnExactLatestUseSpec : ChangeSpec := { name := "fnExactLatestUse", fn := fun _ => fun
  | [d1, d2] => { results := [.lit (.bool true)], args := [d1, d2] }
  | _ => none }
def fnExactLatestUseRow : OpenClaim := { program := "ytgimcnpkngpmiaa", sum := "2e4f1c8993add69467210981dc8e9dd4f5fe949c8808ce2ef64c6ba67fdd3dff", func := "loop.example/g01062/laws.FnExactLatestUse", spec := "fnExactLatestUse", inPlace := ["internal/bytealg.CountString", "internal/bytealg.IndexByteString", "internal/bytealg.IndexString"], unfollowed := true, recurses := true, named := ["internal/bytealg.MaxLen"], apart := false }
def FnExactLatestUseSaid : Prop := fnExactLatestUseRow.holds Try.pinned (OpenSpec.ofChange fnExactLatestUseSpec)

/-- ITS FALSE NEIGHBOUR: 'it returns false'. Refute it at one input. -/
def fnExactLatestUseWrong : ChangeSpec := { name := "fnExactLatestUse", fn := fun _ => fun
  | [d1, d2] => { results := [.lit (.bool false)], args := [d1, d2] }
  | _ => none }
def FnExactLatestUseWrongFalsely : Prop := fnExactLatestUseRow.holds Try.pinned (OpenSpec.ofChange fnExactLatestUseWrong)

/-- 'laws.FnExactExtendUse': WHATEVER THE INPUT: true; the input reads as it did. -/
def fnExactExtendUseSpec : ChangeSpec := { name := "fnExactExtendUse", fn := fun _ => fun
  | [d1, d2, d3] => { results := [.lit (.bool true)], args := [d1, d2, d3] }
  | _ => none }
def fnExactExtendUseRow : OpenClaim := { program := "ytgimcnpkngpmiaa", sum := "2e4f1c8993add69467210981dc8e9dd4f5fe949c8808ce2ef64c6ba67fdd3dff", func := "loop.example/g01062/laws.FnExactExtendUse", spec := "fnExactExtendUse", inPlace := ["internal/bytealg.CountString", "internal/bytealg.IndexByteString", "internal/bytealg.IndexString"], unfollowed := true, recurses := true, named := ["internal/bytealg.MaxLen"], apart := false }
def FnExactExtendUseSaid : Prop := fnExactExtendUseRow.holds Try.pinned (OpenSpec.ofChange fnExactExtendUseSpec)

/-- ITS FALSE NEIGHBOUR: 'it returns false'. Refute it at one input. -/
def fnExactExtendUseWrong : ChangeSpec := { name := "fnExactExtendUse", fn := fun _ => fun
  | [d1, d2, d3] => { results := [.lit (.bool false)], args := [d1, d2, d3] }
  | _ => none }
def FnExactExtendUseWrongFalsely : Prop := fnExactExtendUseRow.holds Try.pinned (OpenSpec.ofChange fnExactExtendUseWrong)

/-- 'laws.FnExactTownsOn': WHATEVER THE INPUT: true; the input reads as it did. -/
def fnExactTownsOnSpec : ChangeSpec := { name := "fnExactTownsOn", fn := fun _ => fun
  | [d1, d2] => { results := [.lit (.bool true)], args := [d1, d2] }
  | _ => none }
def fnExactTownsOnRow : OpenClaim := { program := "ytgimcnpkngpmiaa", sum := "2e4f1c8993add69467210981dc8e9dd4f5fe949c8808ce2ef64c6ba67fdd3dff", func := "loop.example/g01062/laws.FnExactTownsOn", spec := "fnExactTownsOn", inPlace := ["internal/bytealg.CountString", "internal/bytealg.IndexByteString", "internal/bytealg.IndexString"], unfollowed := true, recurses := true, named := ["internal/bytealg.MaxLen"], apart := false }
def FnExactTownsOnSaid : Prop := fnExactTownsOnRow.holds Try.pinned (OpenSpec.ofChange fnExactTownsOnSpec)

/-- ITS FALSE NEIGHBOUR: 'it returns false'. Refute it at one input. -/
def fnExactTownsOnWrong : ChangeSpec := { name := "fnExactTownsOn", fn := fun _ => fun
  | [d1, d2] => { results := [.lit (.bool false)], args := [d1, d2] }
  | _ => none }
def FnExactTownsOnWrongFalsely : Prop := fnExactTownsOnRow.holds Try.pinned (OpenSpec.ofChange fnExactTownsOnWrong)

/-- 'laws.FnExactSameTown': WHATEVER THE INPUT: true; the input reads as it did. -/
def fnExactSameTownSpec : ChangeSpec := { name := "fnExactSameTown", fn := fun _ => fun
  | [d1, d2, d3] => { results := [.lit (.bool true)], args := [d1, d2, d3] }
  | _ => none }
def fnExactSameTownRow : OpenClaim := { program := "ytgimcnpkngpmiaa", sum := "2e4f1c8993add69467210981dc8e9dd4f5fe949c8808ce2ef64c6ba67fdd3dff", func := "loop.example/g01062/laws.FnExactSameTown", spec := "fnExactSameTown", inPlace := ["internal/bytealg.CountString", "internal/bytealg.IndexByteString", "internal/bytealg.IndexString"], unfollowed := true, recurses := true, named := ["internal/bytealg.MaxLen"], apart := false }
def FnExactSameTownSaid : Prop := fnExactSameTownRow.holds Try.pinned (OpenSpec.ofChange fnExactSameTownSpec)

/-- ITS FALSE NEIGHBOUR: 'it returns false'. Refute it at one input. -/
def fnExactSameTownWrong : ChangeSpec := { name := "fnExactSameTown", fn := fun _ => fun
  | [d1, d2, d3] => { results := [.lit (.bool false)], args := [d1, d2, d3] }
  | _ => none }
def FnExactSameTownWrongFalsely : Prop := fnExactSameTownRow.holds Try.pinned (OpenSpec.ofChange fnExactSameTownWrong)

/-- 'laws.FnExactGapBetween': WHATEVER THE INPUT: true; the input reads as it did. -/
def fnExactGapBetweenSpec : ChangeSpec := { name := "fnExactGapBetween", fn := fun _ => fun
  | [d1, d2] => { results := [.lit (.bool true)], args := [d1, d2] }
  | _ => none }
def fnExactGapBetweenRow : OpenClaim := { program := "ytgimcnpkngpmiaa", sum := "2e4f1c8993add69467210981dc8e9dd4f5fe949c8808ce2ef64c6ba67fdd3dff", func := "loop.example/g01062/laws.FnExactGapBetween", spec := "fnExactGapBetween", inPlace := ["internal/bytealg.CountString", "internal/bytealg.IndexByteString", "internal/bytealg.IndexString"], unfollowed := true, recurses := true, named := ["internal/bytealg.MaxLen"], apart := false }
def FnExactGapBetweenSaid : Prop := fnExactGapBetweenRow.holds Try.pinned (OpenSpec.ofChange fnExactGapBetweenSpec)

/-- ITS FALSE NEIGHBOUR: 'it returns false'. Refute it at one input. -/
def fnExactGapBetweenWrong : ChangeSpec := { name := "fnExactGapBetween", fn := fun _ => fun
  | [d1, d2] => { results := [.lit (.bool false)], args := [d1, d2] }
  | _ => none }
def FnExactGapBetweenWrongFalsely : Prop := fnExactGapBetweenRow.holds Try.pinned (OpenSpec.ofChange fnExactGapBetweenWrong)

/- THE SECOND FORM. 'bulk': how many values and letters a reading holds, each counted each time it is reached (what is shared counts as often as it is met; a slice's spare places count too). A statement '..UptoSaid' is the law's where the arguments, and the package variables that the reading takes, are together of bulk at most 1048576: NARROWER than '..Said'. Prove '..Said' where nothing that the law and all that it calls make is longer than what came in: it says more and counts as full. Else prove '..UptoSaid'. A law counts once. -/
mutual
def uptoBulk {H : Type} : DataW H → Nat
  | .lit (.string bytes) => bytes.length + 1
  | .lit _ => 1
  | .nil => 1
  | .ptr d => uptoBulk d + 1
  | .slice elems spare => uptoBulkAll elems + uptoBulkAll spare + 1
  | .agg parts => uptoBulkAll parts + 1
  | .iface _ d => uptoBulk d + 1
  | .map entries => uptoBulkEntries entries + 1
  | .held _ => 1
def uptoBulkAll {H : Type} : List (DataW H) → Nat
  | [] => 0
  | d :: r => uptoBulk d + uptoBulkAll r
def uptoBulkEntries {H : Type} : List (Lit × DataW H) → Nat
  | [] => 0
  | x :: r => uptoBulkEntry x + uptoBulkEntries r
def uptoBulkEntry {H : Type} : Lit × DataW H → Nat
  | (.string bytes, d) => bytes.length + uptoBulk d + 1
  | (_, d) => uptoBulk d + 1
 end
def uptoSmall : (H : Type) → List (DataW H) → Bool := fun _ ds => decide (uptoBulkAll ds ≤ 1048576)
def OpenSpec.upto (s : _root_.Go.ChangeSpec) : _root_.Go.OpenSpec := { _root_.Go.OpenSpec.ofChange s with cond := some uptoSmall }

/-- 'laws.FnExactIsPostmark', WHERE WHAT IT READS IS OF BULK AT MOST 1048576: true; the input reads as it did. -/
def fnExactIsPostmarkUptoRow : OpenClaim := { program := "ytgimcnpkngpmiaa", sum := "2e4f1c8993add69467210981dc8e9dd4f5fe949c8808ce2ef64c6ba67fdd3dff", func := "loop.example/g01062/laws.FnExactIsPostmark", spec := "fnExactIsPostmark", inPlace := ["internal/bytealg.CountString", "internal/bytealg.IndexByteString", "internal/bytealg.IndexString"], named := ["internal/bytealg.MaxLen"], apart := false, narrowed := true }
def FnExactIsPostmarkUptoSaid : Prop := fnExactIsPostmarkUptoRow.holds Try.pinned (OpenSpec.upto fnExactIsPostmarkSpec)

/-- 'laws.FnExactArePostmarks', WHERE WHAT IT READS IS OF BULK AT MOST 1048576: true; the input reads as it did. -/
def fnExactArePostmarksUptoRow : OpenClaim := { program := "ytgimcnpkngpmiaa", sum := "2e4f1c8993add69467210981dc8e9dd4f5fe949c8808ce2ef64c6ba67fdd3dff", func := "loop.example/g01062/laws.FnExactArePostmarks", spec := "fnExactArePostmarks", inPlace := ["internal/bytealg.CountString", "internal/bytealg.IndexByteString", "internal/bytealg.IndexString"], unfollowed := true, recurses := true, named := ["internal/bytealg.MaxLen"], apart := false, narrowed := true }
def FnExactArePostmarksUptoSaid : Prop := fnExactArePostmarksUptoRow.holds Try.pinned (OpenSpec.upto fnExactArePostmarksSpec)

/-- 'laws.FnExactShownBy', WHERE WHAT IT READS IS OF BULK AT MOST 1048576: true; the input reads as it did. -/
def fnExactShownByUptoRow : OpenClaim := { program := "ytgimcnpkngpmiaa", sum := "2e4f1c8993add69467210981dc8e9dd4f5fe949c8808ce2ef64c6ba67fdd3dff", func := "loop.example/g01062/laws.FnExactShownBy", spec := "fnExactShownBy", inPlace := ["internal/bytealg.CountString", "internal/bytealg.IndexByteString", "internal/bytealg.IndexString"], named := ["internal/bytealg.MaxLen"], apart := false, narrowed := true }
def FnExactShownByUptoSaid : Prop := fnExactShownByUptoRow.holds Try.pinned (OpenSpec.upto fnExactShownBySpec)

/-- 'laws.FnExactLoseLetter', WHERE WHAT IT READS IS OF BULK AT MOST 1048576: true; the input reads as it did. -/
def fnExactLoseLetterUptoRow : OpenClaim := { program := "ytgimcnpkngpmiaa", sum := "2e4f1c8993add69467210981dc8e9dd4f5fe949c8808ce2ef64c6ba67fdd3dff", func := "loop.example/g01062/laws.FnExactLoseLetter", spec := "fnExactLoseLetter", inPlace := ["internal/bytealg.CountString", "internal/bytealg.IndexByteString", "internal/bytealg.IndexString"], unfollowed := true, recurses := true, named := ["internal/bytealg.MaxLen"], apart := false, narrowed := true }
def FnExactLoseLetterUptoSaid : Prop := fnExactLoseLetterUptoRow.holds Try.pinned (OpenSpec.upto fnExactLoseLetterSpec)

/-- 'laws.FnExactLatestUse', WHERE WHAT IT READS IS OF BULK AT MOST 1048576: true; the input reads as it did. -/
def fnExactLatestUseUptoRow : OpenClaim := { program := "ytgimcnpkngpmiaa", sum := "2e4f1c8993add69467210981dc8e9dd4f5fe949c8808ce2ef64c6ba67fdd3dff", func := "loop.example/g01062/laws.FnExactLatestUse", spec := "fnExactLatestUse", inPlace := ["internal/bytealg.CountString", "internal/bytealg.IndexByteString", "internal/bytealg.IndexString"], unfollowed := true, recurses := true, named := ["internal/bytealg.MaxLen"], apart := false, narrowed := true }
def FnExactLatestUseUptoSaid : Prop := fnExactLatestUseUptoRow.holds Try.pinned (OpenSpec.upto fnExactLatestUseSpec)

/-- 'laws.FnExactExtendUse', WHERE WHAT IT READS IS OF BULK AT MOST 1048576: true; the input reads as it did. -/
def fnExactExtendUseUptoRow : OpenClaim := { program := "ytgimcnpkngpmiaa", sum := "2e4f1c8993add69467210981dc8e9dd4f5fe949c8808ce2ef64c6ba67fdd3dff", func := "loop.example/g01062/laws.FnExactExtendUse", spec := "fnExactExtendUse", inPlace := ["internal/bytealg.CountString", "internal/bytealg.IndexByteString", "internal/bytealg.IndexString"], unfollowed := true, recurses := true, named := ["internal/bytealg.MaxLen"], apart := false, narrowed := true }
def FnExactExtendUseUptoSaid : Prop := fnExactExtendUseUptoRow.holds Try.pinned (OpenSpec.upto fnExactExtendUseSpec)

/-- 'laws.FnExactTownsOn', WHERE WHAT IT READS IS OF BULK AT MOST 1048576: true; the input reads as it did. -/
def fnExactTownsOnUptoRow : OpenClaim := { program := "ytgimcnpkngpmiaa", sum := "2e4f1c8993add69467210981dc8e9dd4f5fe949c8808ce2ef64c6ba67fdd3dff", func := "loop.example/g01062/laws.FnExactTownsOn", spec := "fnExactTownsOn", inPlace := ["internal/bytealg.CountString", "internal/bytealg.IndexByteString", "internal/bytealg.IndexString"], unfollowed := true, recurses := true, named := ["internal/bytealg.MaxLen"], apart := false, narrowed := true }
def FnExactTownsOnUptoSaid : Prop := fnExactTownsOnUptoRow.holds Try.pinned (OpenSpec.upto fnExactTownsOnSpec)

/-- 'laws.FnExactSameTown', WHERE WHAT IT READS IS OF BULK AT MOST 1048576: true; the input reads as it did. -/
def fnExactSameTownUptoRow : OpenClaim := { program := "ytgimcnpkngpmiaa", sum := "2e4f1c8993add69467210981dc8e9dd4f5fe949c8808ce2ef64c6ba67fdd3dff", func := "loop.example/g01062/laws.FnExactSameTown", spec := "fnExactSameTown", inPlace := ["internal/bytealg.CountString", "internal/bytealg.IndexByteString", "internal/bytealg.IndexString"], unfollowed := true, recurses := true, named := ["internal/bytealg.MaxLen"], apart := false, narrowed := true }
def FnExactSameTownUptoSaid : Prop := fnExactSameTownUptoRow.holds Try.pinned (OpenSpec.upto fnExactSameTownSpec)

/-- 'laws.FnExactGapBetween', WHERE WHAT IT READS IS OF BULK AT MOST 1048576: true; the input reads as it did. -/
def fnExactGapBetweenUptoRow : OpenClaim := { program := "ytgimcnpkngpmiaa", sum := "2e4f1c8993add69467210981dc8e9dd4f5fe949c8808ce2ef64c6ba67fdd3dff", func := "loop.example/g01062/laws.FnExactGapBetween", spec := "fnExactGapBetween", inPlace := ["internal/bytealg.CountString", "internal/bytealg.IndexByteString", "internal/bytealg.IndexString"], unfollowed := true, recurses := true, named := ["internal/bytealg.MaxLen"], apart := false, narrowed := true }
def FnExactGapBetweenUptoSaid : Prop := fnExactGapBetweenUptoRow.holds Try.pinned (OpenSpec.upto fnExactGapBetweenSpec)

end Rows
end Go.Proofs.Ytgimcnpkngpmiaa
