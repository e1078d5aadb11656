/- Chapter 13: censuses: the plain functions of the program and of the reference agree, and the laws answer true. (Q1Rise) No condition but those of each theorem. -/
import Derived.Test.YtpaakpbbahbhcaaDoorQUp
import Derived.Test.YtpaakpbbahbhcaaDoorQLoop
import Derived.Test.YtpaakpbbahbhcaaDoorGsL1Rising
namespace Go.Proofs.YtpaakpbbahbhcaaDoor.Q1Rise
set_option linter.unusedVariables false
set_option linter.unusedSimpArgs false
open Go.RowKit
open Go.Proofs.YtpaakpbbahbhcaaDoor.GoP Go.Proofs.YtpaakpbbahbhcaaDoor.PlainStamp Go.Proofs.YtpaakpbbahbhcaaDoor.QBase Go.Proofs.YtpaakpbbahbhcaaDoor.QUp Go.Proofs.YtpaakpbbahbhcaaDoor.QLoop

def rise (lo hi : Int) (l : List Int) : Bool := upTo (fun n => inB n lo hi) (fun n => n) l l.length
theorem rising_eq (l : List Int) (lo hi : Int) (hl : l.length ≤ 9223372036854775807) : GsL1Rising.P l lo hi = some (rise lo hi l) := by
  simp only [GsL1Rising.P]
  rw [up_loop (ok := fun n => inB n lo hi) (id := fun n => n) (no := false)]
  · unfold rise; cases upTo (fun n => inB n lo hi) (fun n => n) l l.length <;> simp [GsL1Rising.e0]
  · intro k nx s hs
    have hi' : idx l (k : Int) = some s := by rw [idx_nat, hs]
    have hk : k < l.length := (List.getElem?_eq_some_iff.1 hs).1
    simp only [GsL1Rising.l0, hi', Option.bind_some, l1In_eq, letK, joinK, appK, iteK_if]
    refine ⟨fun h => by simp [h], fun h => ⟨fun h0 => by subst h0; simp [h], fun h0 r hr => ?_⟩⟩
    rw [idx_pred h0 (by omega) hr]
    have hk0 : (0 : Int) < (k : Int) := by omega
    have hk1 : ¬ k = 0 := by omega
    exact ⟨fun hlt => by (have hc : ¬ s ≤ r := by omega); simp [h, hk0, hk1, hc], fun hge => by simp [h, hk0, hk1, hge]⟩
end Go.Proofs.YtpaakpbbahbhcaaDoor.Q1Rise
