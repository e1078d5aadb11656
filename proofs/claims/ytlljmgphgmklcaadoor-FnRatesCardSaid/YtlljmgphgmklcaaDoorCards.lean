/-
  DERIVED. GIVEN WITH THE SEED: THE CARDS: each row of YtlljmgphgmklcaaDoorRows.lean that lists a variable, with what it lists TIED to the program's text (the seventh form; the later family's looks); each row that meets fmt, with fmt's text TOLD by the authors' own Lean function (tested against real Go, not proved from fmt's source: count such statements apart). THE CARD IS WHAT COUNTS. Prove the row's statement (the work); the ties are given (YtlljmgphgmklcaaDoorTie.lean); close each card by the builder's one call (the guide's Derived/Test/ToyasCard.lean, 'card_holds'). Laid BY PROGRAM, IN A SANDBOX (cutbox-door.mjs). By AI agents, Wed Nov 11 2026. No macro, syntax, notation, axiom, sorry.
-/
import Derived.Test.YtlljmgphgmklcaaDoorRows
import GoSem.ClaimSeven
namespace Go.Proofs.YtlljmgphgmklcaaDoor
namespace Rows

/-- THE TIED CARD OF 'laws.FnRates'. -/
def fnRatesCard : Claim7 := { stood := { row := fnRatesRow, standIns := [], harness := (true, "f84b9dd1cc49c3012dada08c9570c5cdadb6d2d77ed23484b3a91ca9df89bcc9"), looks := false }, kinds := [], alts := [], laidByText := true, laidKinds := [.data, .data, .data], laidTests := true, laidLooks := .later }
def FnRatesCardSaid : Prop := Claim7.holds Tryd.pinned (.plain (OpenSpec.ofChange fnRatesSpec)) fnRatesCard

/-- THE SECOND FORM's CARD OF 'laws.FnRates'. -/
def fnRatesUptoCard : Claim7 := { stood := { row := fnRatesUptoRow, standIns := [], harness := (true, "f84b9dd1cc49c3012dada08c9570c5cdadb6d2d77ed23484b3a91ca9df89bcc9"), looks := false }, kinds := [], alts := [], laidByText := true, laidKinds := [.data, .data, .data], laidTests := true, laidLooks := .later }
def FnRatesUptoCardSaid : Prop := Claim7.holds Tryd.pinned (.plain (OpenSpec.upto fnRatesSpec)) fnRatesUptoCard
end Rows
end Go.Proofs.YtlljmgphgmklcaaDoor
