/-
  DERIVED. GIVEN WITH THE SEED: THE CARDS: each row of YtgimcnpkngpmiaaDoorRows.lean that lists a variable, with what it lists TIED to the program's text (the seventh form; the later family's looks); each row that meets fmt, with fmt's text TOLD by the authors' own Lean function (tested against real Go, not proved from fmt's source: count such statements apart). THE CARD IS WHAT COUNTS. Prove the row's statement (the work); the ties are given (YtgimcnpkngpmiaaDoorTie.lean); close each card by the builder's one call (the guide's Derived/Test/ToyasCard.lean, 'card_holds'). Laid BY PROGRAM, IN A SANDBOX (cutbox-door.mjs). By AI agents, Wed Nov 11 2026. No macro, syntax, notation, axiom, sorry.
-/
import Derived.Test.YtgimcnpkngpmiaaDoorRows
import GoSem.ClaimSeven
namespace Go.Proofs.YtgimcnpkngpmiaaDoor
namespace Rows

/-- THE TIED CARD OF 'laws.FnExactReadMarks'. -/
def fnExactReadMarksCard : Claim7 := { stood := { row := fnExactReadMarksRow, standIns := [], harness := (true, "0e09b3b77912706cbc1e6ad491bd3dd2b53c9ee1fbcf084745d99e7447c6ea56"), looks := false }, kinds := [], alts := [], laidByText := true, laidKinds := [.data, .pinned], laidTests := true, laidLooks := .later }
def FnExactReadMarksCardSaid : Prop := Claim7.holds Tryd.pinned (.plain (OpenSpec.ofChange fnExactReadMarksSpec)) fnExactReadMarksCard

/-- THE TIED CARD OF 'laws.FnExactPostmarkText'. -/
def fnExactPostmarkTextCard : Claim7 := { stood := { row := fnExactPostmarkTextRow, standIns := [], harness := (true, "0e09b3b77912706cbc1e6ad491bd3dd2b53c9ee1fbcf084745d99e7447c6ea56"), looks := false }, kinds := [], alts := [], laidByText := true, laidKinds := [.data, .data, .data], laidTests := true, laidLooks := .later }
def FnExactPostmarkTextCardSaid : Prop := Claim7.holds Tryd.pinned (.plain (OpenSpec.ofChange fnExactPostmarkTextSpec)) fnExactPostmarkTextCard

/-- THE TIED CARD OF 'laws.FnPostmarks'. -/
def fnPostmarksCard : Claim7 := { stood := { row := fnPostmarksRow, standIns := [], harness := (true, "0e09b3b77912706cbc1e6ad491bd3dd2b53c9ee1fbcf084745d99e7447c6ea56"), looks := false }, kinds := [], alts := [], laidByText := true, laidKinds := [.data, .pinned], laidTests := true, laidLooks := .later }
def FnPostmarksCardSaid : Prop := Claim7.holds Tryd.pinned (.plain (OpenSpec.ofChange fnPostmarksSpec)) fnPostmarksCard

/-- THE SECOND FORM's CARD OF 'laws.FnExactReadMarks'. -/
def fnExactReadMarksUptoCard : Claim7 := { stood := { row := fnExactReadMarksUptoRow, standIns := [], harness := (true, "0e09b3b77912706cbc1e6ad491bd3dd2b53c9ee1fbcf084745d99e7447c6ea56"), looks := false }, kinds := [], alts := [], laidByText := true, laidKinds := [.data, .pinned], laidTests := true, laidLooks := .later }
def FnExactReadMarksUptoCardSaid : Prop := Claim7.holds Tryd.pinned (.plain (OpenSpec.upto fnExactReadMarksSpec)) fnExactReadMarksUptoCard

/-- THE SECOND FORM's CARD OF 'laws.FnExactPostmarkText'. -/
def fnExactPostmarkTextUptoCard : Claim7 := { stood := { row := fnExactPostmarkTextUptoRow, standIns := [], harness := (true, "0e09b3b77912706cbc1e6ad491bd3dd2b53c9ee1fbcf084745d99e7447c6ea56"), looks := false }, kinds := [], alts := [], laidByText := true, laidKinds := [.data, .data, .data], laidTests := true, laidLooks := .later }
def FnExactPostmarkTextUptoCardSaid : Prop := Claim7.holds Tryd.pinned (.plain (OpenSpec.upto fnExactPostmarkTextSpec)) fnExactPostmarkTextUptoCard

/-- THE SECOND FORM's CARD OF 'laws.FnPostmarks'. -/
def fnPostmarksUptoCard : Claim7 := { stood := { row := fnPostmarksUptoRow, standIns := [], harness := (true, "0e09b3b77912706cbc1e6ad491bd3dd2b53c9ee1fbcf084745d99e7447c6ea56"), looks := false }, kinds := [], alts := [], laidByText := true, laidKinds := [.data, .pinned], laidTests := true, laidLooks := .later }
def FnPostmarksUptoCardSaid : Prop := Claim7.holds Tryd.pinned (.plain (OpenSpec.upto fnPostmarksSpec)) fnPostmarksUptoCard
end Rows
end Go.Proofs.YtgimcnpkngpmiaaDoor
