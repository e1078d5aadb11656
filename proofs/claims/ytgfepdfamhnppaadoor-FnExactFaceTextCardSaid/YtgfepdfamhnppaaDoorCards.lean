/-
  DERIVED. GIVEN WITH THE SEED: THE CARDS: each row of YtgfepdfamhnppaaDoorRows.lean that lists a variable, with what it lists TIED to the program's text (the seventh form; the later family's looks); each row that meets fmt, with fmt's text TOLD by the authors' own Lean function (tested against real Go, not proved from fmt's source: count such statements apart). THE CARD IS WHAT COUNTS. Prove the row's statement (the work); the ties are given (YtgfepdfamhnppaaDoorTie.lean); close each card by the builder's one call (the guide's Derived/Test/ToyasCard.lean, 'card_holds'). Laid BY PROGRAM, IN A SANDBOX (cutbox-door.mjs). By AI agents, Wed Nov 11 2026. No macro, syntax, notation, axiom, sorry.
-/
import Derived.Test.YtgfepdfamhnppaaDoorRows
import GoSem.ClaimSeven
namespace Go.Proofs.YtgfepdfamhnppaaDoor
namespace Rows

/-- THE TIED CARD OF 'laws.FnExactGaugeText'. -/
def fnExactGaugeTextCard : Claim7 := { stood := { row := fnExactGaugeTextRow, standIns := [], harness := (true, "0764a86ce1d9aca55a3e13229fff50cfdb69cff5eae7b4393762571765d9835a"), looks := false }, kinds := [], alts := [], laidByText := true, laidKinds := [.data, .data, .data, .data, .pinned], laidTests := true, laidLooks := .later }
def FnExactGaugeTextCardSaid : Prop := Claim7.holds Tryd.pinned (.plain (OpenSpec.ofChange fnExactGaugeTextSpec)) fnExactGaugeTextCard

/-- THE TIED CARD OF 'laws.FnExactCombText'. -/
def fnExactCombTextCard : Claim7 := { stood := { row := fnExactCombTextRow, standIns := [], harness := (true, "0764a86ce1d9aca55a3e13229fff50cfdb69cff5eae7b4393762571765d9835a"), looks := false }, kinds := [], alts := [], laidByText := true, laidKinds := [.data, .data, .data, .data, .pinned], laidTests := true, laidLooks := .later }
def FnExactCombTextCardSaid : Prop := Claim7.holds Tryd.pinned (.plain (OpenSpec.ofChange fnExactCombTextSpec)) fnExactCombTextCard

/-- THE TIED CARD OF 'laws.FnExactFaceText'. -/
def fnExactFaceTextCard : Claim7 := { stood := { row := fnExactFaceTextRow, standIns := [], harness := (true, "0764a86ce1d9aca55a3e13229fff50cfdb69cff5eae7b4393762571765d9835a"), looks := false }, kinds := [], alts := [], laidByText := true, laidKinds := [.data, .data, .data], laidTests := true, laidLooks := .later }
def FnExactFaceTextCardSaid : Prop := Claim7.holds Tryd.pinned (.plain (OpenSpec.ofChange fnExactFaceTextSpec)) fnExactFaceTextCard

/-- THE SECOND FORM's CARD OF 'laws.FnExactGaugeText'. -/
def fnExactGaugeTextUptoCard : Claim7 := { stood := { row := fnExactGaugeTextUptoRow, standIns := [], harness := (true, "0764a86ce1d9aca55a3e13229fff50cfdb69cff5eae7b4393762571765d9835a"), looks := false }, kinds := [], alts := [], laidByText := true, laidKinds := [.data, .data, .data, .data, .pinned], laidTests := true, laidLooks := .later }
def FnExactGaugeTextUptoCardSaid : Prop := Claim7.holds Tryd.pinned (.plain (OpenSpec.upto fnExactGaugeTextSpec)) fnExactGaugeTextUptoCard

/-- THE SECOND FORM's CARD OF 'laws.FnExactCombText'. -/
def fnExactCombTextUptoCard : Claim7 := { stood := { row := fnExactCombTextUptoRow, standIns := [], harness := (true, "0764a86ce1d9aca55a3e13229fff50cfdb69cff5eae7b4393762571765d9835a"), looks := false }, kinds := [], alts := [], laidByText := true, laidKinds := [.data, .data, .data, .data, .pinned], laidTests := true, laidLooks := .later }
def FnExactCombTextUptoCardSaid : Prop := Claim7.holds Tryd.pinned (.plain (OpenSpec.upto fnExactCombTextSpec)) fnExactCombTextUptoCard

/-- THE SECOND FORM's CARD OF 'laws.FnExactFaceText'. -/
def fnExactFaceTextUptoCard : Claim7 := { stood := { row := fnExactFaceTextUptoRow, standIns := [], harness := (true, "0764a86ce1d9aca55a3e13229fff50cfdb69cff5eae7b4393762571765d9835a"), looks := false }, kinds := [], alts := [], laidByText := true, laidKinds := [.data, .data, .data], laidTests := true, laidLooks := .later }
def FnExactFaceTextUptoCardSaid : Prop := Claim7.holds Tryd.pinned (.plain (OpenSpec.upto fnExactFaceTextSpec)) fnExactFaceTextUptoCard
end Rows
end Go.Proofs.YtgfepdfamhnppaaDoor
