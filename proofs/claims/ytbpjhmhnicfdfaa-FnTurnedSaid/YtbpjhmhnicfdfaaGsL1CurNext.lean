/- The drawing cursor's method next as a plain function on tapes. No condition. -/
import Derived.Test.YtbpjhmhnicfdfaaGoC
namespace Go.Proofs.Ytbpjhmhnicfdfaa.GsL1CurNext
set_option linter.unusedVariables false
open Go.RowKit
open Go.Proofs.Ytbpjhmhnicfdfaa.GoC
def P (t : GoC.Tape) : Option (Int × GoC.Tape) := if 0 < t.left then some (t.vals 0, t.tail) else none
theorem C (t : GoC.Tape) (g : Nat) (A : Option Addr) (c b : Nat) (w : World) (K : Hid (CurIs w b g A c t)) {r : Int} {t' : GoC.Tape} (H : Hid (P t = some (r, t'))) :
    Calls Try.prog 51 #[.pointer (some ⟨g, 0, none⟩)] w (fun e w' => e = .returned (.int .i64 r) ∧ CurIs w' b g A c t' ∧ w.grownBy w' (Value.slice (some ⟨g, 0, none⟩) 1 1).ownBlock) := GoC.C t w b g A c K H
end Go.Proofs.Ytbpjhmhnicfdfaa.GsL1CurNext
