/- Chapter 5: combs, holes, gauges: the plain functions of the program and of the reference agree, and the laws answer true. (QToI) No condition but those of each theorem. -/
import Derived.Test.YtpaakpbbahbhcaaDoorQLoop
import Derived.Test.YtpaakpbbahbhcaaDoorGlToIntS
namespace Go.Proofs.YtpaakpbbahbhcaaDoor.QToI
set_option linter.unusedVariables false
set_option linter.unusedSimpArgs false
open Go.RowKit
open Go.Proofs.YtpaakpbbahbhcaaDoor.GoP Go.Proofs.YtpaakpbbahbhcaaDoor.PlainStamp Go.Proofs.YtpaakpbbahbhcaaDoor.QBase Go.Proofs.YtpaakpbbahbhcaaDoor.QLoop

theorem toI (l : List Int) (hl : l.length ≤ 1048576) : GlToIntS.P l = some l := by
  simp only [GlToIntS.P, letK]
  rw [guardK_pos (by omega)]
  refine cnt_is l (fun k s => s = l.take k ++ List.replicate (l.length - k) 0) ?_ ?_ _ (by simp)
  · intro k s nx hk hI hn
    obtain ⟨x, hx, hi⟩ := at_lt (l := l) (k := k) hk
    have hlen : s.length = l.length := by rw [hI]; simp; omega
    obtain ⟨z, hz, hj⟩ := at_lt (l := s) (k := k) (by omega)
    simp only [GlToIntS.l0, hi, hj, Option.bind_some, letK, appK]
    refine hn _ ?_
    rw [hI, take_next hx, List.set_append_right _ _ (by simp; omega)]
    have hr : l.length - k = (l.length - (k + 1)) + 1 := by omega
    rw [hr, List.replicate_succ, List.append_assoc]
    simp [show k - min k l.length = 0 by omega]
  · intro s hI
    rw [hI]; simp [GlToIntS.e0, letK]
end Go.Proofs.YtpaakpbbahbhcaaDoor.QToI
