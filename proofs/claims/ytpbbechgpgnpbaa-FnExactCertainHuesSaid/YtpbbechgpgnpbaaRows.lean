/-
  No cell of these rows narrows 'for every input' (looked for: loops, veiled, ifaces, maps, wideKeys, modest, calm, conditions, laid).
  DERIVED. THE GIVEN ROWS OF THIS SEAT. 12 by the template 'for every input the law returns true; each argument reads behind the call as it read before'; 0 by the template 'total and deterministic' (their statements: YtpbbechgpgnpbaaTotals.lean).
  GIVEN WITH THE SEED: the statements are not yours to turn. If you find one false, say at which input.
  Laid BY PROGRAM, IN A SANDBOX (cutbox-rows.mjs): the forced cells as the released guide's own fill.sh prints them over the translation c69c98282f7efc7e… (all of the seat's roots in one cut). By AI agents, Wed Nov 11 2026. No macro, syntax, notation, axiom, sorry.
-/
import Derived.Test.YtpbbechgpgnpbaaChecked
import GoSem.Claim
import GoSem.ClaimJoined
import GoSem.ClaimMapViews
import Derived.JoinedTies
import Derived.KernelRfl
namespace Go.Proofs.Ytpbbechgpgnpbaa
/- THE CELL 'sum', in the pinned program and in every row, IS THE sha256 OF THE DUMP (.gsa) THAT YtpbbechgpgnpbaaProg.lean LOADS. Nothing in Lean hashes anything: it is a label: what it is worth is what the hold of that sum in a sandbox is worth. -/
noncomputable def Try.pinned : Pinned := { name := "ytpbbechgpgnpbaa", sum := "c69c98282f7efc7e2695cabafe73da50d4476bdeb72070f850c285cb192177cb", checked := Try.checked }
namespace Rows
def none {H : Type} : Left H := { results := [], args := [] }

/-- 'laws.FnExactIsShade': WHATEVER THE INPUT: true; the input reads as it did. -/
def fnExactIsShadeSpec : ChangeSpec := { name := "fnExactIsShade", fn := fun _ => fun
  | [d] => { results := [.lit (.bool true)], args := [d] }
  | _ => none }
def fnExactIsShadeRow : OpenClaim := { program := "ytpbbechgpgnpbaa", sum := "c69c98282f7efc7e2695cabafe73da50d4476bdeb72070f850c285cb192177cb", func := "loop.example/g01062/laws.FnExactIsShade", spec := "fnExactIsShade", apart := false }
def FnExactIsShadeSaid : Prop := fnExactIsShadeRow.holds Try.pinned (OpenSpec.ofChange fnExactIsShadeSpec)

/-- ITS FALSE NEIGHBOUR: 'it returns false'. Refute it at one input. -/
def fnExactIsShadeWrong : ChangeSpec := { name := "fnExactIsShade", fn := fun _ => fun
  | [d] => { results := [.lit (.bool false)], args := [d] }
  | _ => none }
def FnExactIsShadeWrongFalsely : Prop := fnExactIsShadeRow.holds Try.pinned (OpenSpec.ofChange fnExactIsShadeWrong)

/-- 'laws.FnExactAreShades': WHATEVER THE INPUT: true; the input reads as it did. -/
def fnExactAreShadesSpec : ChangeSpec := { name := "fnExactAreShades", fn := fun _ => fun
  | [d] => { results := [.lit (.bool true)], args := [d] }
  | _ => none }
def fnExactAreShadesRow : OpenClaim := { program := "ytpbbechgpgnpbaa", sum := "c69c98282f7efc7e2695cabafe73da50d4476bdeb72070f850c285cb192177cb", func := "loop.example/g01062/laws.FnExactAreShades", spec := "fnExactAreShades", unfollowed := true, recurses := true, apart := false }
def FnExactAreShadesSaid : Prop := fnExactAreShadesRow.holds Try.pinned (OpenSpec.ofChange fnExactAreShadesSpec)

/-- ITS FALSE NEIGHBOUR: 'it returns false'. Refute it at one input. -/
def fnExactAreShadesWrong : ChangeSpec := { name := "fnExactAreShades", fn := fun _ => fun
  | [d] => { results := [.lit (.bool false)], args := [d] }
  | _ => none }
def FnExactAreShadesWrongFalsely : Prop := fnExactAreShadesRow.holds Try.pinned (OpenSpec.ofChange fnExactAreShadesWrong)

/-- 'laws.FnExactHueDistance': WHATEVER THE INPUT: true; the input reads as it did. -/
def fnExactHueDistanceSpec : ChangeSpec := { name := "fnExactHueDistance", fn := fun _ => fun
  | [d1, d2] => { results := [.lit (.bool true)], args := [d1, d2] }
  | _ => none }
def fnExactHueDistanceRow : OpenClaim := { program := "ytpbbechgpgnpbaa", sum := "c69c98282f7efc7e2695cabafe73da50d4476bdeb72070f850c285cb192177cb", func := "loop.example/g01062/laws.FnExactHueDistance", spec := "fnExactHueDistance", apart := false }
def FnExactHueDistanceSaid : Prop := fnExactHueDistanceRow.holds Try.pinned (OpenSpec.ofChange fnExactHueDistanceSpec)

/-- ITS FALSE NEIGHBOUR: 'it returns false'. Refute it at one input. -/
def fnExactHueDistanceWrong : ChangeSpec := { name := "fnExactHueDistance", fn := fun _ => fun
  | [d1, d2] => { results := [.lit (.bool false)], args := [d1, d2] }
  | _ => none }
def FnExactHueDistanceWrongFalsely : Prop := fnExactHueDistanceRow.holds Try.pinned (OpenSpec.ofChange fnExactHueDistanceWrong)

/-- 'laws.FnExactShadesOf': WHATEVER THE INPUT: true; the input reads as it did. -/
def fnExactShadesOfSpec : ChangeSpec := { name := "fnExactShadesOf", fn := fun _ => fun
  | [d1, d2, d3] => { results := [.lit (.bool true)], args := [d1, d2, d3] }
  | _ => none }
def fnExactShadesOfRow : OpenClaim := { program := "ytpbbechgpgnpbaa", sum := "c69c98282f7efc7e2695cabafe73da50d4476bdeb72070f850c285cb192177cb", func := "loop.example/g01062/laws.FnExactShadesOf", spec := "fnExactShadesOf", unfollowed := true, recurses := true, apart := false }
def FnExactShadesOfSaid : Prop := fnExactShadesOfRow.holds Try.pinned (OpenSpec.ofChange fnExactShadesOfSpec)

/-- ITS FALSE NEIGHBOUR: 'it returns false'. Refute it at one input. -/
def fnExactShadesOfWrong : ChangeSpec := { name := "fnExactShadesOf", fn := fun _ => fun
  | [d1, d2, d3] => { results := [.lit (.bool false)], args := [d1, d2, d3] }
  | _ => none }
def FnExactShadesOfWrongFalsely : Prop := fnExactShadesOfRow.holds Try.pinned (OpenSpec.ofChange fnExactShadesOfWrong)

/-- 'laws.FnExactBestShade': WHATEVER THE INPUT: true; the input reads as it did. -/
def fnExactBestShadeSpec : ChangeSpec := { name := "fnExactBestShade", fn := fun _ => fun
  | [d1, d2, d3] => { results := [.lit (.bool true)], args := [d1, d2, d3] }
  | _ => none }
def fnExactBestShadeRow : OpenClaim := { program := "ytpbbechgpgnpbaa", sum := "c69c98282f7efc7e2695cabafe73da50d4476bdeb72070f850c285cb192177cb", func := "loop.example/g01062/laws.FnExactBestShade", spec := "fnExactBestShade", unfollowed := true, recurses := true, apart := false }
def FnExactBestShadeSaid : Prop := fnExactBestShadeRow.holds Try.pinned (OpenSpec.ofChange fnExactBestShadeSpec)

/-- ITS FALSE NEIGHBOUR: 'it returns false'. Refute it at one input. -/
def fnExactBestShadeWrong : ChangeSpec := { name := "fnExactBestShade", fn := fun _ => fun
  | [d1, d2, d3] => { results := [.lit (.bool false)], args := [d1, d2, d3] }
  | _ => none }
def FnExactBestShadeWrongFalsely : Prop := fnExactBestShadeRow.holds Try.pinned (OpenSpec.ofChange fnExactBestShadeWrong)

/-- 'laws.FnExactDoOverlap': WHATEVER THE INPUT: true; the input reads as it did. -/
def fnExactDoOverlapSpec : ChangeSpec := { name := "fnExactDoOverlap", fn := fun _ => fun
  | [d1, d2] => { results := [.lit (.bool true)], args := [d1, d2] }
  | _ => none }
def fnExactDoOverlapRow : OpenClaim := { program := "ytpbbechgpgnpbaa", sum := "c69c98282f7efc7e2695cabafe73da50d4476bdeb72070f850c285cb192177cb", func := "loop.example/g01062/laws.FnExactDoOverlap", spec := "fnExactDoOverlap", apart := false }
def FnExactDoOverlapSaid : Prop := fnExactDoOverlapRow.holds Try.pinned (OpenSpec.ofChange fnExactDoOverlapSpec)

/-- ITS FALSE NEIGHBOUR: 'it returns false'. Refute it at one input. -/
def fnExactDoOverlapWrong : ChangeSpec := { name := "fnExactDoOverlap", fn := fun _ => fun
  | [d1, d2] => { results := [.lit (.bool false)], args := [d1, d2] }
  | _ => none }
def FnExactDoOverlapWrongFalsely : Prop := fnExactDoOverlapRow.holds Try.pinned (OpenSpec.ofChange fnExactDoOverlapWrong)

/-- 'laws.FnExactOverlapPairs': WHATEVER THE INPUT: true; the input reads as it did. -/
def fnExactOverlapPairsSpec : ChangeSpec := { name := "fnExactOverlapPairs", fn := fun _ => fun
  | [d] => { results := [.lit (.bool true)], args := [d] }
  | _ => none }
def fnExactOverlapPairsRow : OpenClaim := { program := "ytpbbechgpgnpbaa", sum := "c69c98282f7efc7e2695cabafe73da50d4476bdeb72070f850c285cb192177cb", func := "loop.example/g01062/laws.FnExactOverlapPairs", spec := "fnExactOverlapPairs", unfollowed := true, recurses := true, apart := false }
def FnExactOverlapPairsSaid : Prop := fnExactOverlapPairsRow.holds Try.pinned (OpenSpec.ofChange fnExactOverlapPairsSpec)

/-- ITS FALSE NEIGHBOUR: 'it returns false'. Refute it at one input. -/
def fnExactOverlapPairsWrong : ChangeSpec := { name := "fnExactOverlapPairs", fn := fun _ => fun
  | [d] => { results := [.lit (.bool false)], args := [d] }
  | _ => none }
def FnExactOverlapPairsWrongFalsely : Prop := fnExactOverlapPairsRow.holds Try.pinned (OpenSpec.ofChange fnExactOverlapPairsWrong)

/-- 'laws.FnExactColorsIn': WHATEVER THE INPUT: true; the input reads as it did. -/
def fnExactColorsInSpec : ChangeSpec := { name := "fnExactColorsIn", fn := fun _ => fun
  | [d] => { results := [.lit (.bool true)], args := [d] }
  | _ => none }
def fnExactColorsInRow : OpenClaim := { program := "ytpbbechgpgnpbaa", sum := "c69c98282f7efc7e2695cabafe73da50d4476bdeb72070f850c285cb192177cb", func := "loop.example/g01062/laws.FnExactColorsIn", spec := "fnExactColorsIn", apart := false }
def FnExactColorsInSaid : Prop := fnExactColorsInRow.holds Try.pinned (OpenSpec.ofChange fnExactColorsInSpec)

/-- ITS FALSE NEIGHBOUR: 'it returns false'. Refute it at one input. -/
def fnExactColorsInWrong : ChangeSpec := { name := "fnExactColorsIn", fn := fun _ => fun
  | [d] => { results := [.lit (.bool false)], args := [d] }
  | _ => none }
def FnExactColorsInWrongFalsely : Prop := fnExactColorsInRow.holds Try.pinned (OpenSpec.ofChange fnExactColorsInWrong)

/-- 'laws.FnExactFreeColors': WHATEVER THE INPUT: true; the input reads as it did. -/
def fnExactFreeColorsSpec : ChangeSpec := { name := "fnExactFreeColors", fn := fun _ => fun
  | [d1, d2] => { results := [.lit (.bool true)], args := [d1, d2] }
  | _ => none }
def fnExactFreeColorsRow : OpenClaim := { program := "ytpbbechgpgnpbaa", sum := "c69c98282f7efc7e2695cabafe73da50d4476bdeb72070f850c285cb192177cb", func := "loop.example/g01062/laws.FnExactFreeColors", spec := "fnExactFreeColors", unfollowed := true, recurses := true, apart := false }
def FnExactFreeColorsSaid : Prop := fnExactFreeColorsRow.holds Try.pinned (OpenSpec.ofChange fnExactFreeColorsSpec)

/-- ITS FALSE NEIGHBOUR: 'it returns false'. Refute it at one input. -/
def fnExactFreeColorsWrong : ChangeSpec := { name := "fnExactFreeColors", fn := fun _ => fun
  | [d1, d2] => { results := [.lit (.bool false)], args := [d1, d2] }
  | _ => none }
def FnExactFreeColorsWrongFalsely : Prop := fnExactFreeColorsRow.holds Try.pinned (OpenSpec.ofChange fnExactFreeColorsWrong)

/-- 'laws.FnExactCertainHues': WHATEVER THE INPUT: true; the input reads as it did. -/
def fnExactCertainHuesSpec : ChangeSpec := { name := "fnExactCertainHues", fn := fun _ => fun
  | [d1, d2, d3] => { results := [.lit (.bool true)], args := [d1, d2, d3] }
  | _ => none }
def fnExactCertainHuesRow : OpenClaim := { program := "ytpbbechgpgnpbaa", sum := "c69c98282f7efc7e2695cabafe73da50d4476bdeb72070f850c285cb192177cb", func := "loop.example/g01062/laws.FnExactCertainHues", spec := "fnExactCertainHues", unfollowed := true, recurses := true, apart := false }
def FnExactCertainHuesSaid : Prop := fnExactCertainHuesRow.holds Try.pinned (OpenSpec.ofChange fnExactCertainHuesSpec)

/-- ITS FALSE NEIGHBOUR: 'it returns false'. Refute it at one input. -/
def fnExactCertainHuesWrong : ChangeSpec := { name := "fnExactCertainHues", fn := fun _ => fun
  | [d1, d2, d3] => { results := [.lit (.bool false)], args := [d1, d2, d3] }
  | _ => none }
def FnExactCertainHuesWrongFalsely : Prop := fnExactCertainHuesRow.holds Try.pinned (OpenSpec.ofChange fnExactCertainHuesWrong)

/-- 'laws.FnExactBlendHue': WHATEVER THE INPUT: true; the input reads as it did. -/
def fnExactBlendHueSpec : ChangeSpec := { name := "fnExactBlendHue", fn := fun _ => fun
  | [d1, d2] => { results := [.lit (.bool true)], args := [d1, d2] }
  | _ => none }
def fnExactBlendHueRow : OpenClaim := { program := "ytpbbechgpgnpbaa", sum := "c69c98282f7efc7e2695cabafe73da50d4476bdeb72070f850c285cb192177cb", func := "loop.example/g01062/laws.FnExactBlendHue", spec := "fnExactBlendHue", apart := false }
def FnExactBlendHueSaid : Prop := fnExactBlendHueRow.holds Try.pinned (OpenSpec.ofChange fnExactBlendHueSpec)

/-- ITS FALSE NEIGHBOUR: 'it returns false'. Refute it at one input. -/
def fnExactBlendHueWrong : ChangeSpec := { name := "fnExactBlendHue", fn := fun _ => fun
  | [d1, d2] => { results := [.lit (.bool false)], args := [d1, d2] }
  | _ => none }
def FnExactBlendHueWrongFalsely : Prop := fnExactBlendHueRow.holds Try.pinned (OpenSpec.ofChange fnExactBlendHueWrong)

/-- 'laws.FnShades': WHATEVER THE INPUT: true; the input reads as it did. -/
def fnShadesSpec : ChangeSpec := { name := "fnShades", fn := fun _ => fun
  | [d] => { results := [.lit (.bool true)], args := [d] }
  | _ => none }
def fnShadesRow : OpenClaim := { program := "ytpbbechgpgnpbaa", sum := "c69c98282f7efc7e2695cabafe73da50d4476bdeb72070f850c285cb192177cb", func := "loop.example/g01062/laws.FnShades", spec := "fnShades", unfollowed := true, recurses := true, apart := false }
def FnShadesSaid : Prop := fnShadesRow.holds Try.pinned (OpenSpec.ofChange fnShadesSpec)

/-- ITS FALSE NEIGHBOUR: 'it returns false'. Refute it at one input. -/
def fnShadesWrong : ChangeSpec := { name := "fnShades", fn := fun _ => fun
  | [d] => { results := [.lit (.bool false)], args := [d] }
  | _ => none }
def FnShadesWrongFalsely : Prop := fnShadesRow.holds Try.pinned (OpenSpec.ofChange fnShadesWrong)

/- THE SECOND FORM. 'bulk': how many values and letters a reading holds, each counted each time it is reached (what is shared counts as often as it is met; a slice's spare places count too). A statement '..UptoSaid' is the law's where the arguments, and the package variables that the reading takes, are together of bulk at most 1048576: NARROWER than '..Said'. Prove '..Said' where nothing that the law and all that it calls make is longer than what came in: it says more and counts as full. Else prove '..UptoSaid'. A law counts once. -/
mutual
def uptoBulk {H : Type} : DataW H → Nat
  | .lit (.string bytes) => bytes.length + 1
  | .lit _ => 1
  | .nil => 1
  | .ptr d => uptoBulk d + 1
  | .slice elems spare => uptoBulkAll elems + uptoBulkAll spare + 1
  | .agg parts => uptoBulkAll parts + 1
  | .iface _ d => uptoBulk d + 1
  | .map entries => uptoBulkEntries entries + 1
  | .held _ => 1
def uptoBulkAll {H : Type} : List (DataW H) → Nat
  | [] => 0
  | d :: r => uptoBulk d + uptoBulkAll r
def uptoBulkEntries {H : Type} : List (Lit × DataW H) → Nat
  | [] => 0
  | x :: r => uptoBulkEntry x + uptoBulkEntries r
def uptoBulkEntry {H : Type} : Lit × DataW H → Nat
  | (.string bytes, d) => bytes.length + uptoBulk d + 1
  | (_, d) => uptoBulk d + 1
 end
def uptoSmall : (H : Type) → List (DataW H) → Bool := fun _ ds => decide (uptoBulkAll ds ≤ 1048576)
def OpenSpec.upto (s : _root_.Go.ChangeSpec) : _root_.Go.OpenSpec := { _root_.Go.OpenSpec.ofChange s with cond := some uptoSmall }

/-- 'laws.FnExactIsShade', WHERE WHAT IT READS IS OF BULK AT MOST 1048576: true; the input reads as it did. -/
def fnExactIsShadeUptoRow : OpenClaim := { program := "ytpbbechgpgnpbaa", sum := "c69c98282f7efc7e2695cabafe73da50d4476bdeb72070f850c285cb192177cb", func := "loop.example/g01062/laws.FnExactIsShade", spec := "fnExactIsShade", apart := false, narrowed := true }
def FnExactIsShadeUptoSaid : Prop := fnExactIsShadeUptoRow.holds Try.pinned (OpenSpec.upto fnExactIsShadeSpec)

/-- 'laws.FnExactAreShades', WHERE WHAT IT READS IS OF BULK AT MOST 1048576: true; the input reads as it did. -/
def fnExactAreShadesUptoRow : OpenClaim := { program := "ytpbbechgpgnpbaa", sum := "c69c98282f7efc7e2695cabafe73da50d4476bdeb72070f850c285cb192177cb", func := "loop.example/g01062/laws.FnExactAreShades", spec := "fnExactAreShades", unfollowed := true, recurses := true, apart := false, narrowed := true }
def FnExactAreShadesUptoSaid : Prop := fnExactAreShadesUptoRow.holds Try.pinned (OpenSpec.upto fnExactAreShadesSpec)

/-- 'laws.FnExactHueDistance', WHERE WHAT IT READS IS OF BULK AT MOST 1048576: true; the input reads as it did. -/
def fnExactHueDistanceUptoRow : OpenClaim := { program := "ytpbbechgpgnpbaa", sum := "c69c98282f7efc7e2695cabafe73da50d4476bdeb72070f850c285cb192177cb", func := "loop.example/g01062/laws.FnExactHueDistance", spec := "fnExactHueDistance", apart := false, narrowed := true }
def FnExactHueDistanceUptoSaid : Prop := fnExactHueDistanceUptoRow.holds Try.pinned (OpenSpec.upto fnExactHueDistanceSpec)

/-- 'laws.FnExactShadesOf', WHERE WHAT IT READS IS OF BULK AT MOST 1048576: true; the input reads as it did. -/
def fnExactShadesOfUptoRow : OpenClaim := { program := "ytpbbechgpgnpbaa", sum := "c69c98282f7efc7e2695cabafe73da50d4476bdeb72070f850c285cb192177cb", func := "loop.example/g01062/laws.FnExactShadesOf", spec := "fnExactShadesOf", unfollowed := true, recurses := true, apart := false, narrowed := true }
def FnExactShadesOfUptoSaid : Prop := fnExactShadesOfUptoRow.holds Try.pinned (OpenSpec.upto fnExactShadesOfSpec)

/-- 'laws.FnExactBestShade', WHERE WHAT IT READS IS OF BULK AT MOST 1048576: true; the input reads as it did. -/
def fnExactBestShadeUptoRow : OpenClaim := { program := "ytpbbechgpgnpbaa", sum := "c69c98282f7efc7e2695cabafe73da50d4476bdeb72070f850c285cb192177cb", func := "loop.example/g01062/laws.FnExactBestShade", spec := "fnExactBestShade", unfollowed := true, recurses := true, apart := false, narrowed := true }
def FnExactBestShadeUptoSaid : Prop := fnExactBestShadeUptoRow.holds Try.pinned (OpenSpec.upto fnExactBestShadeSpec)

/-- 'laws.FnExactDoOverlap', WHERE WHAT IT READS IS OF BULK AT MOST 1048576: true; the input reads as it did. -/
def fnExactDoOverlapUptoRow : OpenClaim := { program := "ytpbbechgpgnpbaa", sum := "c69c98282f7efc7e2695cabafe73da50d4476bdeb72070f850c285cb192177cb", func := "loop.example/g01062/laws.FnExactDoOverlap", spec := "fnExactDoOverlap", apart := false, narrowed := true }
def FnExactDoOverlapUptoSaid : Prop := fnExactDoOverlapUptoRow.holds Try.pinned (OpenSpec.upto fnExactDoOverlapSpec)

/-- 'laws.FnExactOverlapPairs', WHERE WHAT IT READS IS OF BULK AT MOST 1048576: true; the input reads as it did. -/
def fnExactOverlapPairsUptoRow : OpenClaim := { program := "ytpbbechgpgnpbaa", sum := "c69c98282f7efc7e2695cabafe73da50d4476bdeb72070f850c285cb192177cb", func := "loop.example/g01062/laws.FnExactOverlapPairs", spec := "fnExactOverlapPairs", unfollowed := true, recurses := true, apart := false, narrowed := true }
def FnExactOverlapPairsUptoSaid : Prop := fnExactOverlapPairsUptoRow.holds Try.pinned (OpenSpec.upto fnExactOverlapPairsSpec)

/-- 'laws.FnExactColorsIn', WHERE WHAT IT READS IS OF BULK AT MOST 1048576: true; the input reads as it did. -/
def fnExactColorsInUptoRow : OpenClaim := { program := "ytpbbechgpgnpbaa", sum := "c69c98282f7efc7e2695cabafe73da50d4476bdeb72070f850c285cb192177cb", func := "loop.example/g01062/laws.FnExactColorsIn", spec := "fnExactColorsIn", apart := false, narrowed := true }
def FnExactColorsInUptoSaid : Prop := fnExactColorsInUptoRow.holds Try.pinned (OpenSpec.upto fnExactColorsInSpec)

/-- 'laws.FnExactFreeColors', WHERE WHAT IT READS IS OF BULK AT MOST 1048576: true; the input reads as it did. -/
def fnExactFreeColorsUptoRow : OpenClaim := { program := "ytpbbechgpgnpbaa", sum := "c69c98282f7efc7e2695cabafe73da50d4476bdeb72070f850c285cb192177cb", func := "loop.example/g01062/laws.FnExactFreeColors", spec := "fnExactFreeColors", unfollowed := true, recurses := true, apart := false, narrowed := true }
def FnExactFreeColorsUptoSaid : Prop := fnExactFreeColorsUptoRow.holds Try.pinned (OpenSpec.upto fnExactFreeColorsSpec)

/-- 'laws.FnExactCertainHues', WHERE WHAT IT READS IS OF BULK AT MOST 1048576: true; the input reads as it did. -/
def fnExactCertainHuesUptoRow : OpenClaim := { program := "ytpbbechgpgnpbaa", sum := "c69c98282f7efc7e2695cabafe73da50d4476bdeb72070f850c285cb192177cb", func := "loop.example/g01062/laws.FnExactCertainHues", spec := "fnExactCertainHues", unfollowed := true, recurses := true, apart := false, narrowed := true }
def FnExactCertainHuesUptoSaid : Prop := fnExactCertainHuesUptoRow.holds Try.pinned (OpenSpec.upto fnExactCertainHuesSpec)

/-- 'laws.FnExactBlendHue', WHERE WHAT IT READS IS OF BULK AT MOST 1048576: true; the input reads as it did. -/
def fnExactBlendHueUptoRow : OpenClaim := { program := "ytpbbechgpgnpbaa", sum := "c69c98282f7efc7e2695cabafe73da50d4476bdeb72070f850c285cb192177cb", func := "loop.example/g01062/laws.FnExactBlendHue", spec := "fnExactBlendHue", apart := false, narrowed := true }
def FnExactBlendHueUptoSaid : Prop := fnExactBlendHueUptoRow.holds Try.pinned (OpenSpec.upto fnExactBlendHueSpec)

/-- 'laws.FnShades', WHERE WHAT IT READS IS OF BULK AT MOST 1048576: true; the input reads as it did. -/
def fnShadesUptoRow : OpenClaim := { program := "ytpbbechgpgnpbaa", sum := "c69c98282f7efc7e2695cabafe73da50d4476bdeb72070f850c285cb192177cb", func := "loop.example/g01062/laws.FnShades", spec := "fnShades", unfollowed := true, recurses := true, apart := false, narrowed := true }
def FnShadesUptoSaid : Prop := fnShadesUptoRow.holds Try.pinned (OpenSpec.upto fnShadesSpec)

end Rows
end Go.Proofs.Ytpbbechgpgnpbaa
