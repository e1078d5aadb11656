/- The contracts of the laws' helpers vBig and vAt. Condition: the bytes read as bytes. -/
import Derived.Test.YtohgfphbgpjamaaDoorCurMore
namespace Go.Proofs.YtohgfphbgpjamaaDoor.LawHelp
set_option linter.unusedVariables false
open Go.RowKit
open Go.Proofs.YtohgfphbgpjamaaDoor.Rowed Go.Proofs.YtohgfphbgpjamaaDoor.Cursor Go.Proofs.YtohgfphbgpjamaaDoor.CurMore

theorem vBig_yes (w : World) (A : Option Addr) (n c : Nat) (h : 65536 < n) (hn : n ≤ 9223372036854775807) :
    Calls Tryd.prog 8 #[.slice A n c] w fun e w' => e = .returned (.bool true) ∧ w = w' := by
  go_enter Tryd.func8, Tryd.ntmps8
  go_wp2_with fail
  go_ret
  exact ⟨by simp; omega, rfl⟩
theorem vBig_no (w : World) (A : Option Addr) (n c : Nat) (h : n ≤ 65536) :
    Calls Tryd.prog 8 #[.slice A n c] w fun e w' => e = .returned (.bool false) ∧ w = w' := by
  go_enter Tryd.func8, Tryd.ntmps8
  go_wp2_with fail
  go_ret
  exact ⟨by simp; omega, rfl⟩
theorem ByteCode.widen {w : World} {B B' n : Nat} {A : Option Addr} (h : ByteCode w B A n) (hB : B ≤ B') : ByteCode w B' A n :=
  fun i hi => let ⟨ad, z, e, hbl, r⟩ := h i hi; ⟨ad, z, e, by omega, r⟩

theorem vAt_any (w : World) (B : Nat) (A : Option Addr) (n c i : Nat) (hc : ByteCode w B A n) (hn : n ≤ 65536) (hi : i ≤ 1000) :
    Calls Tryd.prog 19 #[.slice A n c, .int .i64 (i : Int)] w fun e w' => ∃ x : Int, e = .returned (.int .i64 x) ∧ 0 ≤ x ∧ x ≤ 255 ∧ w = w' := by
  by_cases hlt : i < n
  · obtain ⟨ad, z, rfl, hbl, hcell, h0, h1⟩ := hc i hlt
    clear hc
    go_enter Tryd.func19, Tryd.ntmps19
    go_wp2_with fail
    go_ret
    exact ⟨_, rfl, h0, h1, rfl⟩
  · clear hc
    have b0 : 0 ≤ ((i : Int) * 7 + n) % 256 := by omega
    have b1 : ((i : Int) * 7 + n) % 256 ≤ 255 := by omega
    go_enter Tryd.func19, Tryd.ntmps19
    go_wp2_with fail
    go_ret
    exact ⟨_, rfl, b0, b1, rfl⟩
theorem vAt_fix (w : World) (A : Option Addr) (n c i : Nat) (hc : ByteCode w w.heap.size A n) (hn : n ≤ 65536) (hi : i ≤ 1000) :
    ∃ x : Int, 0 ≤ x ∧ x ≤ 255 ∧ ∀ W, Below w.heap.size w W → Calls Tryd.prog 19 #[.slice A n c, .int .i64 (i : Int)] W fun e w' => e = .returned (.int .i64 x) ∧ w' = W := by
  by_cases hlt : i < n
  · obtain ⟨ad, z, rfl, hbl, hcell0, h0, h1⟩ := hc i hlt
    refine ⟨z, h0, h1, fun W hW => ?_⟩
    have hcell := cell_below hW hcell0
    clear hc hcell0 hW
    go_enter Tryd.func19, Tryd.ntmps19
    go_wp2_with fail
    go_ret
    exact ⟨rfl, rfl⟩
  · clear hc
    have b0 : 0 ≤ ((i : Int) * 7 + n) % 256 := by omega
    have b1 : ((i : Int) * 7 + n) % 256 ≤ 255 := by omega
    refine ⟨((i : Int) * 7 + n) % 256, b0, b1, fun W hW => ?_⟩
    clear hW
    go_enter Tryd.func19, Tryd.ntmps19
    go_wp2_with fail
    go_ret
    exact ⟨rfl, rfl⟩
end Go.Proofs.YtohgfphbgpjamaaDoor.LawHelp
