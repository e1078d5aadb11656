/- The contracts of the laws' helpers vBig and vAt. Condition: the bytes read as bytes. -/
import Derived.Test.YtohgfphbgpjamaaCurMore
namespace Go.Proofs.Ytohgfphbgpjamaa.LawHelp
set_option linter.unusedVariables false
open Go.RowKit
open Go.Proofs.Ytohgfphbgpjamaa.Rowed Go.Proofs.Ytohgfphbgpjamaa.Cursor Go.Proofs.Ytohgfphbgpjamaa.CurMore

theorem vBig_yes (w : World) (A : Option Addr) (n c : Nat) (h : 65536 < n) (hn : n ≤ 9223372036854775807) :
    Calls Try.prog 8 #[.slice A n c] w fun e w' => e = .returned (.bool true) ∧ w = w' := by
  go_enter Try.func8, Try.ntmps8
  go_wp2_with fail
  go_ret
  exact ⟨by simp; omega, rfl⟩
theorem vBig_no (w : World) (A : Option Addr) (n c : Nat) (h : n ≤ 65536) :
    Calls Try.prog 8 #[.slice A n c] w fun e w' => e = .returned (.bool false) ∧ w = w' := by
  go_enter Try.func8, Try.ntmps8
  go_wp2_with fail
  go_ret
  exact ⟨by simp; omega, rfl⟩
theorem ByteCode.widen {w : World} {B B' n : Nat} {A : Option Addr} (h : ByteCode w B A n) (hB : B ≤ B') : ByteCode w B' A n :=
  fun i hi => let ⟨ad, z, e, hbl, r⟩ := h i hi; ⟨ad, z, e, by omega, r⟩

end Go.Proofs.Ytohgfphbgpjamaa.LawHelp
