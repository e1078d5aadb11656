/- Chapter 7: hues and shades: the plain functions of the program and of the reference agree, and the laws answer true. (Q7List) No condition but those of each theorem. -/
import Derived.Test.YtpbbechgpgnpbaaQ7Shade
import Derived.Test.YtpbbechgpgnpbaaQOrd
import Derived.Test.YtpbbechgpgnpbaaQLoop
import Derived.Test.YtpbbechgpgnpbaaPShade
import Derived.Test.YtpbbechgpgnpbaaGiAreShades
import Derived.Test.YtpbbechgpgnpbaaGsL7Good
namespace Go.Proofs.Ytpbbechgpgnpbaa.Q7List
set_option linter.unusedVariables false
set_option linter.unusedSimpArgs false
open Go.RowKit
open Go.Proofs.Ytpbbechgpgnpbaa.GoP Go.Proofs.Ytpbbechgpgnpbaa.PlainStamp Go.Proofs.Ytpbbechgpgnpbaa.QBase Go.Proofs.Ytpbbechgpgnpbaa.Q7Shade Go.Proofs.Ytpbbechgpgnpbaa.QOrd Go.Proofs.Ytpbbechgpgnpbaa.QLoop Go.Proofs.Ytpbbechgpgnpbaa.PShade

def nameLt (r s : Shade) : Bool := bl r.name s.name
def okShs (l : List Shade) : Bool := riseL 12 okSh nameLt l
theorem areShades_eq (l : List Shade) (hl : l.length ≤ 9223372036854775807) : GiAreShades.P l = some (okShs l) := by
  simp only [GiAreShades.P, GiAreByKeyShadeStringiIsShadeiNameOfShade.P, letK, iteK_if]
  by_cases h12 : l.length ≤ 12
  · rw [if_neg (by simp; omega), rise_loop (ok := okSh) (lt := nameLt) (no := false)]
    · unfold okShs riseL; cases riseTo okSh nameLt l l.length <;> simp [h12, GiAreByKeyShadeStringiIsShadeiNameOfShade.e0]
    · intro k nx s hs
      have hi : idx l (k : Int) = some s := by rw [idx_nat, hs]
      have hk : k < l.length := (List.getElem?_eq_some_iff.1 hs).1
      simp only [GiAreByKeyShadeStringiIsShadeiNameOfShade.l0, hi, Option.bind_some, unShade, isShade_eq, GiNameOfShade.P, letK, joinK, appK, iteK_if, bl_le]
      refine ⟨fun h => by simp [h], fun h => ⟨fun h0 => by subst h0; simp [h], fun h0 r hr => ?_⟩⟩
      rw [idx_pred h0 (by omega) hr]
      have hk0 : (0 : Int) < (k : Int) := by omega
      have hk1 : ¬ k = 0 := by omega
      exact ⟨fun hlt => by (have hc : bl r.name s.name = true := hlt); simp [h, hk0, hk1, hc], fun hge => by (have hc : bl r.name s.name = false := hge); simp [h, hk0, hk1, hc]⟩
  · rw [if_pos (by simp; omega)]; unfold okShs riseL; simp [h12]
theorem l7Good_eq (l : List Shade) (hf : ∀ s ∈ l, s.fits) (hl : l.length ≤ 9223372036854775807) : GsL7Good.P l = some (okShs l) := by
  simp only [GsL7Good.P]
  rw [rise_loop (ok := okSh) (lt := nameLt) (no := false)]
  · unfold okShs riseL; cases riseTo okSh nameLt l l.length <;> simp [GsL7Good.e0, letK]; omega
  · intro k nx s hs
    have hi : idx l (k : Int) = some s := by rw [idx_nat, hs]
    have hk : k < l.length := (List.getElem?_eq_some_iff.1 hs).1
    have hm := hf s (List.mem_of_getElem? hs)
    have h1 := l7One_eq s hm
    simp only [GsL7Good.l0, hi, Option.bind_some, unShade, h1, letK, joinK, appK, iteK_if, bl_lt]
    refine ⟨fun h => by simp [h], fun h => ⟨fun h0 => by subst h0; simp [h], fun h0 r hr => ?_⟩⟩
    rw [idx_pred h0 (by omega) hr]
    have hk0 : (0 : Int) < (k : Int) := by omega
    have hk1 : ¬ k = 0 := by omega
    exact ⟨fun hlt => by (have hc : bl r.name s.name = true := hlt); simp [h, hk0, hk1, hc], fun hge => by (have hc : bl r.name s.name = false := hge); simp [h, hk0, hk1, hc]⟩
theorem shs_mem {l : List Shade} (h : okShs l = true) {x : Shade} (hx : x ∈ l) : okSh x = true := riseL_mem h hx
end Go.Proofs.Ytpbbechgpgnpbaa.Q7List
