/-
  DERIVED. GIVEN WITH THE SEED: THE CARDS: each row of YtpcdaoeijlifmaaDoorRows.lean that lists a variable, with what it lists TIED to the program's text (the seventh form; the later family's looks); each row that meets fmt, with fmt's text TOLD by the authors' own Lean function (tested against real Go, not proved from fmt's source: count such statements apart). THE CARD IS WHAT COUNTS. Prove the row's statement (the work); the ties are given (YtpcdaoeijlifmaaDoorTie.lean); close each card by the builder's one call (the guide's Derived/Test/ToyasCard.lean, 'card_holds'). Laid BY PROGRAM, IN A SANDBOX (cutbox-door.mjs). By AI agents, Wed Nov 11 2026. No macro, syntax, notation, axiom, sorry.
-/
import Derived.Test.YtpcdaoeijlifmaaDoorRows
import GoSem.ClaimSeven
namespace Go.Proofs.YtpcdaoeijlifmaaDoor
namespace Rows

/-- THE TIED CARD OF 'laws.FnExactParseStamp'. -/
def fnExactParseStampCard : Claim7 := { stood := { row := fnExactParseStampRow, standIns := [], harness := (true, "15a64341eb6d28aaa1bfea35a92d5268307730cc727ff76686d7edd32a61faca"), looks := true }, kinds := [], alts := [], laidByText := true, laidKinds := [.data, .data, .data, .data, .sentinel, .sentinel, .pinned], laidTests := true, laidLooks := .later }
def FnExactParseStampCardSaid : Prop := Claim7.holds Tryd.pinned (.plain (OpenSpec.ofChange fnExactParseStampSpec)) fnExactParseStampCard

/-- THE TIED CARD OF 'laws.FnExactParsePaper'. -/
def fnExactParsePaperCard : Claim7 := { stood := { row := fnExactParsePaperRow, standIns := [], harness := (true, "15a64341eb6d28aaa1bfea35a92d5268307730cc727ff76686d7edd32a61faca"), looks := true }, kinds := [], alts := [], laidByText := true, laidKinds := [.data, .data, .data, .sentinel, .sentinel], laidTests := true, laidLooks := .later }
def FnExactParsePaperCardSaid : Prop := Claim7.holds Tryd.pinned (.plain (OpenSpec.ofChange fnExactParsePaperSpec)) fnExactParsePaperCard

/-- THE TIED CARD OF 'laws.FnCombs'. -/
def fnCombsCard : Claim7 := { stood := { row := fnCombsRow, standIns := [], harness := (true, "15a64341eb6d28aaa1bfea35a92d5268307730cc727ff76686d7edd32a61faca"), looks := true }, kinds := [], alts := [], laidByText := true, laidKinds := [.data, .data, .data, .data, .pinned], laidTests := true, laidLooks := .later }
def FnCombsCardSaid : Prop := Claim7.holds Tryd.pinned (.plain (OpenSpec.ofChange fnCombsSpec)) fnCombsCard

/-- THE SECOND FORM's CARD OF 'laws.FnExactParseStamp'. -/
def fnExactParseStampUptoCard : Claim7 := { stood := { row := fnExactParseStampUptoRow, standIns := [], harness := (true, "15a64341eb6d28aaa1bfea35a92d5268307730cc727ff76686d7edd32a61faca"), looks := true }, kinds := [], alts := [], laidByText := true, laidKinds := [.data, .data, .data, .data, .sentinel, .sentinel, .pinned], laidTests := true, laidLooks := .later }
def FnExactParseStampUptoCardSaid : Prop := Claim7.holds Tryd.pinned (.plain (OpenSpec.upto fnExactParseStampSpec)) fnExactParseStampUptoCard

/-- THE SECOND FORM's CARD OF 'laws.FnExactParsePaper'. -/
def fnExactParsePaperUptoCard : Claim7 := { stood := { row := fnExactParsePaperUptoRow, standIns := [], harness := (true, "15a64341eb6d28aaa1bfea35a92d5268307730cc727ff76686d7edd32a61faca"), looks := true }, kinds := [], alts := [], laidByText := true, laidKinds := [.data, .data, .data, .sentinel, .sentinel], laidTests := true, laidLooks := .later }
def FnExactParsePaperUptoCardSaid : Prop := Claim7.holds Tryd.pinned (.plain (OpenSpec.upto fnExactParsePaperSpec)) fnExactParsePaperUptoCard

/-- THE SECOND FORM's CARD OF 'laws.FnCombs'. -/
def fnCombsUptoCard : Claim7 := { stood := { row := fnCombsUptoRow, standIns := [], harness := (true, "15a64341eb6d28aaa1bfea35a92d5268307730cc727ff76686d7edd32a61faca"), looks := true }, kinds := [], alts := [], laidByText := true, laidKinds := [.data, .data, .data, .data, .pinned], laidTests := true, laidLooks := .later }
def FnCombsUptoCardSaid : Prop := Claim7.holds Tryd.pinned (.plain (OpenSpec.upto fnCombsSpec)) fnCombsUptoCard
end Rows
end Go.Proofs.YtpcdaoeijlifmaaDoor
