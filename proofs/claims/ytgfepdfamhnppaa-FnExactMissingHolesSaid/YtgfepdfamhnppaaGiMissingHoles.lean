/- loop.example/g01062/impl.MissingHoles as a plain function, and the contract of the program's: where the plain one has an answer, the program has it. Conditions: slices read as lists. -/
import Derived.Test.YtgfepdfamhnppaaChecked
import Derived.Test.YtgfepdfamhnppaaGoM
import Derived.Test.YtgfepdfamhnppaaHelpInt
import Derived.Test.YtgfepdfamhnppaaGiAreHoles
import Derived.Test.YtgfepdfamhnppaaGiDistances
import Derived.Test.YtgfepdfamhnppaaGiIsGauge
import Derived.WalkKit
import Derived.WalkSpells
import Derived.WalkLawsBesides
import Derived.BigQuiet
import Derived.OwnWalk
import Derived.Deep.LoopGhost
import Derived.Deep.QuietTactic
import Derived.IntWalk
import Derived.Lib.QuietBelow
namespace Go.Proofs.Ytgfepdfamhnppaa.GiMissingHoles
set_option linter.unusedVariables false
set_option linter.unusedSimpArgs false
open Go.RowKit
open Go.Proofs.Ytgfepdfamhnppaa.Rowed Go.Proofs.Ytgfepdfamhnppaa.Turn Go.Proofs.Ytgfepdfamhnppaa.Aid Go.Proofs.Ytgfepdfamhnppaa.GoP Go.Proofs.Ytgfepdfamhnppaa.GoM

def l0 (gauge : Int) (t_14 : (List Int)) (k0 : Nat) (s : Int) (nx0 bk0 : Int → Option (Int × Bool)) : Option (Int × Bool) :=
  letK s fun missing_6l0 =>
  Option.bind (idx t_14 (k0 : Int)) fun (yt_18 : Int) =>
  letK (IntKind.i64.wrap (yt_18 * gauge)) fun (t_23 : Int) =>
  letK (IntKind.i64.wrap (t_23 + 100000)) fun (t_24 : Int) =>
  letK (IntKind.i64.wrap (Int.tdiv t_24 200000)) fun (t_25 : Int) =>
  letK (IntKind.i64.wrap (t_25 - 1)) fun (t_29 : Int) =>
  letK (max t_29 0) fun (t_30 : Int) =>
  letK (IntKind.i64.wrap (missing_6l0 + t_30)) fun (t_31 : Int) =>
  appK nx0 (t_31)

def e0  (s : Int) : Option (Int × Bool) :=
  letK s fun missing_6l0 =>
  some (missing_6l0, true)

def P (fuel : Nat) (holes : (List Int)) (gauge : Int) : Option (Int × Bool) :=
  Option.bind (Go.Proofs.Ytgfepdfamhnppaa.GiAreHoles.P holes) fun (t_3 : Bool) =>
  letK (!t_3) fun (t_4 : Bool) =>
  joinK (fun (t_9 : Bool) =>
  iteK t_9
  (some (0, false))
  (Option.bind (Go.Proofs.Ytgfepdfamhnppaa.GiDistances.P fuel holes) fun (t_14 : (List Int)) =>
  cntK (l0 gauge t_14) (t_14.length) 0 (0) (e0 ))) fun jt_9 => iteK t_4 (appK jt_9 true) (Option.bind (Go.Proofs.Ytgfepdfamhnppaa.GiIsGauge.P gauge) fun (t_7 : Bool) =>
  letK (!t_7) fun (t_8 : Bool) =>
  appK jt_9 t_8)

set_option maxRecDepth 100000 in
set_option maxHeartbeats 2000000 in
theorem C (fuel : Nat) (holes : (List Int)) (gauge : Int) (A0 : Option Addr) (c0 : Nat)  (w : World) (M0 : Hid (Cells w 1 A0 holes.length (Go.Proofs.Ytgfepdfamhnppaa.HelpInt.iv holes))) (N0 : Hid (holes.length ≤ 9223372036854775807))  {r0 : Int} {r1 : Bool} (H : Hid (P fuel holes gauge = some (r0, r1))) :
    Calls Try.prog 24 #[.slice A0 holes.length c0, .int .i64 gauge] w (Gives (.tuple #[.int .i64 r0, .bool r1]) w) := by
  have HB := Lib.hid (Below.refl w.heap.size w)
  unfold P at H
  have N0o := N0.out
  go_enter Try.func24, Try.ntmps24
  replace H := bind_hid H
  obtain ⟨t_3, qt_3, H⟩ := H
  go_wp2_with fail
  go_at_call 49
  refine (Go.Proofs.Ytgfepdfamhnppaa.GiAreHoles.C (holes) A0 c0 _  (Lib.hid (Cells.below M0.out HB.out)) N0 qt_3).mono ?_
  rintro e_t_3 wt_3 ⟨rfl, bt_3⟩
  have HBwt_3 := Lib.hid (Below.step HB.out bt_3)
  clear bt_3
  cases t_3 with
  | false =>
    replace H := let_hid H
    obtain ⟨t_4, ht_4, H⟩ := H
    obtain rfl : t_4 = true := ht_4.symm
    replace H := join_hid H
    replace H := ite_t H
    replace H := app_hid H
    replace H := ite_t H
    cases ret_hid H
    go_wp2_with fail
    go_ret2
    exact ⟨rfl, HBwt_3.out⟩
  | true =>
    replace H := let_hid H
    obtain ⟨t_4, ht_4, H⟩ := H
    obtain rfl : t_4 = false := ht_4.symm
    replace H := join_hid H
    replace H := ite_f H
    replace H := bind_hid H
    obtain ⟨t_7, qt_7, H⟩ := H
    go_wp2_with fail
    go_at_call 50
    refine (Go.Proofs.Ytgfepdfamhnppaa.GiIsGauge.C (gauge)  _   qt_7).mono ?_
    rintro e_t_7 wt_7 ⟨rfl, bt_7⟩
    have HBwt_7 := Lib.hid (Below.step HBwt_3.out bt_7)
    clear bt_7
    cases t_7 with
    | false =>
      replace H := let_hid H
      obtain ⟨t_8, ht_8, H⟩ := H
      obtain rfl : t_8 = true := ht_8.symm
      replace H := app_hid H
      replace H := ite_t H
      cases ret_hid H
      go_wp2_with fail
      go_ret2
      exact ⟨rfl, HBwt_7.out⟩
    | true =>
      replace H := let_hid H
      obtain ⟨t_8, ht_8, H⟩ := H
      obtain rfl : t_8 = false := ht_8.symm
      replace H := app_hid H
      replace H := ite_f H
      replace H := bind_hid H
      obtain ⟨t_14, qt_14, H⟩ := H
      go_wp2_with fail
      go_at_call 53
      refine (Go.Proofs.Ytgfepdfamhnppaa.GiDistances.C fuel (holes) A0 c0 _  (Lib.hid (Cells.below M0.out HBwt_7.out)) N0 qt_14).mono ?_
      rintro e_t_14 wt_14 ⟨At_14, ct_14, rfl, ot_14, bt_14⟩
      have Ot_14 := Lib.hid (own_lower ot_14 HBwt_7.out.size)
      clear ot_14
      have HBwt_14 := Lib.hid (Below.step HBwt_7.out bt_14)
      clear bt_14
      have hb_0 : t_14.length ≤ 9223372036854775807 := own_max Ot_14.out
      go_wp2_with fail
      go_loopg [21, 6] (t_14.length) (fun m_ v21_ v6_ wr => ∃ (k0 : Nat) (missing_6l0 : Int), k0 + m_ = t_14.length ∧ v21_ = .int .i64 (k0 : Int) ∧ v6_ = .int .i64 missing_6l0 ∧ Hid (cntK (l0 gauge t_14) m_ k0 (missing_6l0) (e0 ) = some (r0, r1)) ∧ Hid (Below w.heap.size w wr) ∧ Hid (wr.ownsRow w.heap.size 3 1 (.slice At_14 t_14.length ct_14) t_14.length (Go.Proofs.Ytgfepdfamhnppaa.HelpInt.iv t_14)))
      case atStart => exact ⟨0, _, by omega, rfl, rfl, H, HBwt_14, Ot_14⟩
      case round =>
        obtain ⟨k0, missing_6l0, hkm0, rfl, rfl, H, HBwr0, Ot_14⟩ := hrel
        rename World => wr0
        cases gk with
        | zero =>
          obtain rfl : k0 = t_14.length := by omega
          have hc0 : decide (((t_14.length : Nat) : Int) < ((t_14.length : Nat) : Int)) = false := by simp
          replace H := cnt_zero H
          unfold e0 at H
          replace H := let_hid H
          obtain ⟨_, rfl, H⟩ := H
          cases ret_hid H
          go_wp2_with fail
          go_ret2
          exact ⟨rfl, HBwr0.out⟩
        | succ m0 =>
          have hlt0 : k0 < t_14.length := by omega
          have hc0 : decide ((k0 : Int) < ((t_14.length : Nat) : Int)) = true := by simp; omega
          replace H := cnt_succ H
          unfold l0 at H
          replace H := let_hid H
          obtain ⟨_, rfl, H⟩ := H
          replace H := idx_hid H
          obtain ⟨nt_18, yt_18, et_18, lt_18, gt_18, H⟩ := H
          obtain rfl : k0 = nt_18 := by omega
          clear et_18
          obtain ⟨qt_18, Qt_18⟩ := own_some Ot_14.out (by omega)
          subst Qt_18
          obtain ⟨ab_t_18, ao_t_18, zt_18, At_18, z_t_18, ct_18_0⟩ := Go.Proofs.Ytgfepdfamhnppaa.HelpInt.Ints.at_ (own_cells Ot_14.out) (k := k0) (by omega)
          obtain rfl := Option.some.inj (gt_18.out.symm.trans z_t_18)
          simp only [Option.some.injEq, Addr.mk.injEq] at At_18
          obtain ⟨rfl, rfl, _⟩ := At_18
          clear z_t_18
          simp only [Nat.zero_add] at ct_18_0
          have b0t_18 : (0 : Int) ≤ (k0 : Int) := by omega
          have b1t_18 : (k0 : Int) < ((t_14.length : Nat) : Int) := by omega
          have b2t_18 : ((k0 : Int)).toNat = k0 := by omega
          replace H := let_hid H
          obtain ⟨t_23, ht_23, H⟩ := H
          replace H := let_hid H
          obtain ⟨t_24, ht_24, H⟩ := H
          replace H := let_hid H
          obtain ⟨t_25, ht_25, H⟩ := H
          replace H := let_hid H
          obtain ⟨t_29, ht_29, H⟩ := H
          replace H := let_hid H
          obtain ⟨t_30, ht_30, H⟩ := H
          replace H := let_hid H
          obtain ⟨t_31, ht_31, H⟩ := H
          replace H := app_hid H
          go_wp2_with fail
          go_roundg m0
          case measure => omega
          case rel => exact ⟨k0 + 1, _, by omega, by go_num, rfl, H, HBwr0, Ot_14⟩
end Go.Proofs.Ytgfepdfamhnppaa.GiMissingHoles
