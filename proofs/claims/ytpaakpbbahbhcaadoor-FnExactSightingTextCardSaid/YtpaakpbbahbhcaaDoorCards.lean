/-
  DERIVED. GIVEN WITH THE SEED: THE CARDS: each row of YtpaakpbbahbhcaaDoorRows.lean that lists a variable, with what it lists TIED to the program's text (the seventh form; the later family's looks); each row that meets fmt, with fmt's text TOLD by the authors' own Lean function (tested against real Go, not proved from fmt's source: count such statements apart). THE CARD IS WHAT COUNTS. Prove the row's statement (the work); the ties are given (YtpaakpbbahbhcaaDoorTie.lean); close each card by the builder's one call (the guide's Derived/Test/ToyasCard.lean, 'card_holds'). Laid BY PROGRAM, IN A SANDBOX (cutbox-door.mjs). By AI agents, Wed Nov 11 2026. No macro, syntax, notation, axiom, sorry.
-/
import Derived.Test.YtpaakpbbahbhcaaDoorRows
import GoSem.ClaimSeven
namespace Go.Proofs.YtpaakpbbahbhcaaDoor
namespace Rows

/-- THE TIED CARD OF 'laws.FnExactSightingText'. -/
def fnExactSightingTextCard : Claim7 := { stood := { row := fnExactSightingTextRow, standIns := [], harness := (true, "04d011f9d0d643daf4bab9ec6702cddd93fd7e5ea420660e3c70043e53df8d84"), looks := false }, kinds := [], alts := [], laidByText := true, laidKinds := [.data, .data, .data], laidTests := true, laidLooks := .later }
def FnExactSightingTextCardSaid : Prop := Claim7.holds Tryd.pinned (.plain (OpenSpec.ofChange fnExactSightingTextSpec)) fnExactSightingTextCard

/-- THE SECOND FORM's CARD OF 'laws.FnExactSightingText'. -/
def fnExactSightingTextUptoCard : Claim7 := { stood := { row := fnExactSightingTextUptoRow, standIns := [], harness := (true, "04d011f9d0d643daf4bab9ec6702cddd93fd7e5ea420660e3c70043e53df8d84"), looks := false }, kinds := [], alts := [], laidByText := true, laidKinds := [.data, .data, .data], laidTests := true, laidLooks := .later }
def FnExactSightingTextUptoCardSaid : Prop := Claim7.holds Tryd.pinned (.plain (OpenSpec.upto fnExactSightingTextSpec)) fnExactSightingTextUptoCard
end Rows
end Go.Proofs.YtpaakpbbahbhcaaDoor
