/- Chapter 5: combs, holes, gauges: the plain functions of the program and of the reference agree, and the laws answer true. (Q5GaugeOf) No condition but those of each theorem. -/
import Derived.Test.YtgfepdfamhnppaaQ5Holes
import Derived.Test.YtgfepdfamhnppaaQ5Gauge
import Derived.Test.YtgfepdfamhnppaaQLoop
import Derived.Test.YtgfepdfamhnppaaQUp
import Derived.Test.YtgfepdfamhnppaaQAll
import Derived.Test.YtgfepdfamhnppaaQToI
import Derived.Test.YtgfepdfamhnppaaQInt
import Derived.Test.YtgfepdfamhnppaaGlFnExactGaugeOf
namespace Go.Proofs.Ytgfepdfamhnppaa.Q5GaugeOf
set_option linter.unusedVariables false
set_option linter.unusedSimpArgs false
open Go.RowKit
open Go.Proofs.Ytgfepdfamhnppaa.GoP Go.Proofs.Ytgfepdfamhnppaa.PlainStamp Go.Proofs.Ytgfepdfamhnppaa.QBase Go.Proofs.Ytgfepdfamhnppaa.Q5Holes Go.Proofs.Ytgfepdfamhnppaa.Q5Gauge Go.Proofs.Ytgfepdfamhnppaa.QLoop Go.Proofs.Ytgfepdfamhnppaa.QUp Go.Proofs.Ytgfepdfamhnppaa.QAll Go.Proofs.Ytgfepdfamhnppaa.QToI Go.Proofs.Ytgfepdfamhnppaa.QInt

theorem gauge_same (l : List Int) (hl : l.length ≤ 9223372036854775807) : GiGaugeOf.P l = GsGaugeOf.P l := by
  simp only [GiGaugeOf.P, GsGaugeOf.P, areHoles_eq l hl, l5Holes_eq l hl, isGauge_eq, l5Gauge_eq, Option.bind_some, letK, iteK_if]
theorem gauge_some (l : List Int) (hl : l.length ≤ 9223372036854775807) : ∃ a b, GsGaugeOf.P l = some (a, b) := by
  simp only [GsGaugeOf.P, l5Holes_eq l hl, l5Gauge_eq, Option.bind_some, letK, iteK_if]
  cases h : holesB l with
  | false => exact ⟨0, false, by simp⟩
  | true =>
    have hn := holes_len h
    obtain ⟨x, hx, hxi⟩ := at_lt (l := l) (k := 0) (by omega)
    obtain ⟨y, hy, hyi⟩ := at_lt (l := l) (k := l.length - 1) (by omega)
    have hlt := holes_up h (i := 0) (j := l.length - 1) (by omega) hx hy
    have h1 := holes_in h hx
    have h2 := holes_in h hy
    rw [wrap_in (x := (l.length : Int) - 1) (by omega) (by omega), show (l.length : Int) - 1 = ((l.length - 1 : Nat) : Int) by omega, hyi]
    have hx0 : idx l 0 = some x := hxi
    simp only [Bool.not_true, Bool.false_eq_true, if_false, Option.bind_some, hx0]
    rw [wrap_in (x := y - x) (by omega) (by omega), guardK_pos (by omega)]
    cases inB (IntKind.i64.wrap (Int.tdiv (IntKind.i64.wrap (200000 * ((l.length - 1 : Nat) : Int))) (y - x))) 500 2000
    · exact ⟨_, _, by simp; exact ⟨rfl, rfl⟩⟩
    · exact ⟨_, _, by simp; exact ⟨rfl, rfl⟩⟩
theorem law_gauge (l : List Int) (hl : l.length ≤ 9223372036854775807) : GlFnExactGaugeOf.P l = some true := by
  simp only [GlFnExactGaugeOf.P, letK, iteK_if]
  by_cases hb : (1048576 : Int) < (l.length : Int)
  · rw [if_pos (by simpa using hb)]
  · rw [if_neg (by simpa using hb)]
    obtain ⟨a, b, h⟩ := gauge_some l hl
    simp [toI l (by omega), gauge_same l hl, h, bind2, joinK, appK, iteK_if, eqI]
end Go.Proofs.Ytgfepdfamhnppaa.Q5GaugeOf
