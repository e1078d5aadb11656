/-
  DERIVED. GIVEN WITH THE SEED: THE CARDS: each row of YtfjcibkgbalkaaaDoorRows.lean that lists a variable, with what it lists TIED to the program's text (the seventh form; the later family's looks); each row that meets fmt, with fmt's text TOLD by the authors' own Lean function (tested against real Go, not proved from fmt's source: count such statements apart). THE CARD IS WHAT COUNTS. Prove the row's statement (the work); the ties are given (YtfjcibkgbalkaaaDoorTie.lean); close each card by the builder's one call (the guide's Derived/Test/ToyasCard.lean, 'card_holds'). Laid BY PROGRAM, IN A SANDBOX (cutbox-door.mjs). By AI agents, Wed Nov 11 2026. No macro, syntax, notation, axiom, sorry.
-/
import Derived.Test.YtfjcibkgbalkaaaDoorRows
import GoSem.ClaimSeven
namespace Go.Proofs.YtfjcibkgbalkaaaDoor
namespace Rows

/-- THE TIED CARD OF 'laws.FnRates'. -/
def fnRatesCard : Claim7 := { stood := { row := fnRatesRow, standIns := [], harness := (true, "0c3f9fd7aebd2ff3f44be0f756417aaef0f8a5be89861f93db9dadc1975b26a9"), looks := false }, kinds := [], alts := [], laidByText := true, laidKinds := [.data, .data, .data], laidTests := true, laidLooks := .later }
def FnRatesCardSaid : Prop := Claim7.holds Tryd.pinned (.plain (OpenSpec.ofChange fnRatesSpec)) fnRatesCard

/-- THE TIED CARD OF 'laws.FnMails'. -/
def fnMailsCard : Claim7 := { stood := { row := fnMailsRow, standIns := [], harness := (true, "0c3f9fd7aebd2ff3f44be0f756417aaef0f8a5be89861f93db9dadc1975b26a9"), looks := false }, kinds := [], alts := [], laidByText := true, laidKinds := [.data, .data, .data], laidTests := true, laidLooks := .later }
def FnMailsCardSaid : Prop := Claim7.holds Tryd.pinned (.plain (OpenSpec.ofChange fnMailsSpec)) fnMailsCard

/-- THE TIED CARD OF 'laws.FnExactMailText'. -/
def fnExactMailTextCard : Claim7 := { stood := { row := fnExactMailTextRow, standIns := [], harness := (true, "0c3f9fd7aebd2ff3f44be0f756417aaef0f8a5be89861f93db9dadc1975b26a9"), looks := false }, kinds := [], alts := [], laidByText := true, laidKinds := [.data, .data, .data], laidTests := true, laidLooks := .later }
def FnExactMailTextCardSaid : Prop := Claim7.holds Tryd.pinned (.plain (OpenSpec.ofChange fnExactMailTextSpec)) fnExactMailTextCard

/-- THE SECOND FORM's CARD OF 'laws.FnRates'. -/
def fnRatesUptoCard : Claim7 := { stood := { row := fnRatesUptoRow, standIns := [], harness := (true, "0c3f9fd7aebd2ff3f44be0f756417aaef0f8a5be89861f93db9dadc1975b26a9"), looks := false }, kinds := [], alts := [], laidByText := true, laidKinds := [.data, .data, .data], laidTests := true, laidLooks := .later }
def FnRatesUptoCardSaid : Prop := Claim7.holds Tryd.pinned (.plain (OpenSpec.upto fnRatesSpec)) fnRatesUptoCard

/-- THE SECOND FORM's CARD OF 'laws.FnMails'. -/
def fnMailsUptoCard : Claim7 := { stood := { row := fnMailsUptoRow, standIns := [], harness := (true, "0c3f9fd7aebd2ff3f44be0f756417aaef0f8a5be89861f93db9dadc1975b26a9"), looks := false }, kinds := [], alts := [], laidByText := true, laidKinds := [.data, .data, .data], laidTests := true, laidLooks := .later }
def FnMailsUptoCardSaid : Prop := Claim7.holds Tryd.pinned (.plain (OpenSpec.upto fnMailsSpec)) fnMailsUptoCard

/-- THE SECOND FORM's CARD OF 'laws.FnExactMailText'. -/
def fnExactMailTextUptoCard : Claim7 := { stood := { row := fnExactMailTextUptoRow, standIns := [], harness := (true, "0c3f9fd7aebd2ff3f44be0f756417aaef0f8a5be89861f93db9dadc1975b26a9"), looks := false }, kinds := [], alts := [], laidByText := true, laidKinds := [.data, .data, .data], laidTests := true, laidLooks := .later }
def FnExactMailTextUptoCardSaid : Prop := Claim7.holds Tryd.pinned (.plain (OpenSpec.upto fnExactMailTextSpec)) fnExactMailTextUptoCard
end Rows
end Go.Proofs.YtfjcibkgbalkaaaDoor
