/-
  DERIVED. GIVEN WITH THE SEED: THE CARDS: each row of YtkinlkmmelkdnaaDoorRows.lean that lists a variable, with what it lists TIED to the program's text (the seventh form; the later family's looks); each row that meets fmt, with fmt's text TOLD by the authors' own Lean function (tested against real Go, not proved from fmt's source: count such statements apart). THE CARD IS WHAT COUNTS. Prove the row's statement (the work); the ties are given (YtkinlkmmelkdnaaDoorTie.lean); close each card by the builder's one call (the guide's Derived/Test/ToyasCard.lean, 'card_holds'). Laid BY PROGRAM, IN A SANDBOX (cutbox-door.mjs). By AI agents, Wed Nov 11 2026. No macro, syntax, notation, axiom, sorry.
-/
import Derived.Test.YtkinlkmmelkdnaaDoorRows
import GoSem.ClaimSeven
namespace Go.Proofs.YtkinlkmmelkdnaaDoor
namespace Rows

/-- THE TIED CARD OF 'laws.FnExactRateText'. -/
def fnExactRateTextCard : Claim7 := { stood := { row := fnExactRateTextRow, standIns := [], harness := (true, "f53d8f72f4295b62ad8b7843e76979c8d10d8bfcc2a15af99aae5028e889d760"), looks := false }, kinds := [], alts := [], laidByText := true, laidKinds := [.data, .data, .data], laidTests := true, laidLooks := .later }
def FnExactRateTextCardSaid : Prop := Claim7.holds Tryd.pinned (.plain (OpenSpec.ofChange fnExactRateTextSpec)) fnExactRateTextCard

/-- THE TIED CARD OF 'laws.FnRates'. -/
def fnRatesCard : Claim7 := { stood := { row := fnRatesRow, standIns := [], harness := (true, "f53d8f72f4295b62ad8b7843e76979c8d10d8bfcc2a15af99aae5028e889d760"), looks := false }, kinds := [], alts := [], laidByText := true, laidKinds := [.data, .data, .data], laidTests := true, laidLooks := .later }
def FnRatesCardSaid : Prop := Claim7.holds Tryd.pinned (.plain (OpenSpec.ofChange fnRatesSpec)) fnRatesCard

/-- THE TIED CARD OF 'laws.FnHues'. -/
def fnHuesCard : Claim7 := { stood := { row := fnHuesRow, standIns := [], harness := (true, "f53d8f72f4295b62ad8b7843e76979c8d10d8bfcc2a15af99aae5028e889d760"), looks := false }, kinds := [], alts := [], laidByText := true, laidKinds := [.data, .data, .data], laidTests := true, laidLooks := .later }
def FnHuesCardSaid : Prop := Claim7.holds Tryd.pinned (.plain (OpenSpec.ofChange fnHuesSpec)) fnHuesCard

/-- THE SECOND FORM's CARD OF 'laws.FnExactRateText'. -/
def fnExactRateTextUptoCard : Claim7 := { stood := { row := fnExactRateTextUptoRow, standIns := [], harness := (true, "f53d8f72f4295b62ad8b7843e76979c8d10d8bfcc2a15af99aae5028e889d760"), looks := false }, kinds := [], alts := [], laidByText := true, laidKinds := [.data, .data, .data], laidTests := true, laidLooks := .later }
def FnExactRateTextUptoCardSaid : Prop := Claim7.holds Tryd.pinned (.plain (OpenSpec.upto fnExactRateTextSpec)) fnExactRateTextUptoCard

/-- THE SECOND FORM's CARD OF 'laws.FnRates'. -/
def fnRatesUptoCard : Claim7 := { stood := { row := fnRatesUptoRow, standIns := [], harness := (true, "f53d8f72f4295b62ad8b7843e76979c8d10d8bfcc2a15af99aae5028e889d760"), looks := false }, kinds := [], alts := [], laidByText := true, laidKinds := [.data, .data, .data], laidTests := true, laidLooks := .later }
def FnRatesUptoCardSaid : Prop := Claim7.holds Tryd.pinned (.plain (OpenSpec.upto fnRatesSpec)) fnRatesUptoCard

/-- THE SECOND FORM's CARD OF 'laws.FnHues'. -/
def fnHuesUptoCard : Claim7 := { stood := { row := fnHuesUptoRow, standIns := [], harness := (true, "f53d8f72f4295b62ad8b7843e76979c8d10d8bfcc2a15af99aae5028e889d760"), looks := false }, kinds := [], alts := [], laidByText := true, laidKinds := [.data, .data, .data], laidTests := true, laidLooks := .later }
def FnHuesUptoCardSaid : Prop := Claim7.holds Tryd.pinned (.plain (OpenSpec.upto fnHuesSpec)) fnHuesUptoCard
end Rows
end Go.Proofs.YtkinlkmmelkdnaaDoor
