/- loop.example/g01062/spec.MissingHoles as a plain function, and the contract of the program's: where the plain one has an answer, the program has it. Conditions: slices read as lists. -/
import Derived.Test.YtgfepdfamhnppaaChecked
import Derived.Test.YtgfepdfamhnppaaGoM
import Derived.Test.YtgfepdfamhnppaaHelpInt
import Derived.Test.YtgfepdfamhnppaaGsL5Holes
import Derived.Test.YtgfepdfamhnppaaGsL1Most
import Derived.Test.YtgfepdfamhnppaaGsL5Gauge
import Derived.WalkKit
import Derived.WalkSpells
import Derived.WalkLawsBesides
import Derived.BigQuiet
import Derived.OwnWalk
import Derived.Deep.LoopGhost
import Derived.Deep.QuietTactic
import Derived.IntWalk
import Derived.Lib.QuietBelow
namespace Go.Proofs.Ytgfepdfamhnppaa.GsMissingHoles
set_option linter.unusedVariables false
set_option linter.unusedSimpArgs false
open Go.RowKit
open Go.Proofs.Ytgfepdfamhnppaa.Rowed Go.Proofs.Ytgfepdfamhnppaa.Turn Go.Proofs.Ytgfepdfamhnppaa.Aid Go.Proofs.Ytgfepdfamhnppaa.GoP Go.Proofs.Ytgfepdfamhnppaa.GoM

def l0 (holes : (List Int)) (gauge : Int) (s : Int × Int) (nx0 bk0 : Int × Int → Option (Int × Bool)) : Option (Int × Bool) :=
  unp2 s fun sum_6l0 i_7l0 =>
  letK (decide (i_7l0 < (holes.length : Int))) fun (t_17 : Bool) =>
  iteK t_17
  (Option.bind (idx holes i_7l0) fun (yt_21 : Int) =>
  letK (IntKind.i64.wrap (i_7l0 - 1)) fun (t_25 : Int) =>
  Option.bind (idx holes t_25) fun (yt_26 : Int) =>
  letK (IntKind.i64.wrap (yt_21 - yt_26)) fun (t_28 : Int) =>
  letK (IntKind.i64.wrap (2 * t_28)) fun (t_29 : Int) =>
  letK (IntKind.i64.wrap (t_29 * gauge)) fun (t_31 : Int) =>
  letK (IntKind.i64.wrap (t_31 + 200000)) fun (t_32 : Int) =>
  letK (IntKind.i64.wrap (Int.tdiv t_32 400000)) fun (t_33 : Int) =>
  letK (IntKind.i64.wrap (t_33 - 1)) fun (t_34 : Int) =>
  Option.bind (Go.Proofs.Ytgfepdfamhnppaa.GsL1Most.P 0 t_34) fun (t_35 : Int) =>
  letK (IntKind.i64.wrap (sum_6l0 + t_35)) fun (t_36 : Int) =>
  letK (IntKind.i64.wrap (i_7l0 + 1)) fun (t_39 : Int) =>
  appK nx0 (t_36, t_39))
  (appK bk0 (sum_6l0, i_7l0))

def e0  (s : Int × Int) : Option (Int × Bool) :=
  unp2 s fun sum_6l0 i_7l0 =>
  some (sum_6l0, true)

def P (fuel : Nat) (holes : (List Int)) (gauge : Int) : Option (Int × Bool) :=
  Option.bind (Go.Proofs.Ytgfepdfamhnppaa.GsL5Holes.P holes) fun (t_3 : Bool) =>
  letK (!t_3) fun (t_4 : Bool) =>
  joinK (fun (t_9 : Bool) =>
  iteK t_9
  (some (0, false))
  (loopK (l0 holes gauge) fuel (0, 1) (e0 ))) fun jt_9 => iteK t_4 (appK jt_9 true) (Option.bind (Go.Proofs.Ytgfepdfamhnppaa.GsL5Gauge.P gauge) fun (t_7 : Bool) =>
  letK (!t_7) fun (t_8 : Bool) =>
  appK jt_9 t_8)

set_option maxRecDepth 100000 in
set_option maxHeartbeats 2000000 in
theorem C (fuel : Nat) (holes : (List Int)) (gauge : Int) (A0 : Option Addr) (c0 : Nat)  (w : World) (M0 : Hid (Cells w 1 A0 holes.length (Go.Proofs.Ytgfepdfamhnppaa.HelpInt.iv holes))) (N0 : Hid (holes.length ≤ 9223372036854775807))  {r0 : Int} {r1 : Bool} (H : Hid (P fuel holes gauge = some (r0, r1))) :
    Calls Try.prog 23 #[.slice A0 holes.length c0, .int .i64 gauge] w (Gives (.tuple #[.int .i64 r0, .bool r1]) w) := by
  have HB := Lib.hid (Below.refl w.heap.size w)
  unfold P at H
  have N0o := N0.out
  go_enter Try.func23, Try.ntmps23
  replace H := bind_hid H
  obtain ⟨t_3, qt_3, H⟩ := H
  go_wp2_with fail
  go_at_call 47
  refine (Go.Proofs.Ytgfepdfamhnppaa.GsL5Holes.C (holes) A0 c0 _  (Lib.hid (Cells.below M0.out HB.out)) N0 qt_3).mono ?_
  rintro e_t_3 wt_3 ⟨rfl, bt_3⟩
  have HBwt_3 := Lib.hid (Below.step HB.out bt_3)
  clear bt_3
  cases t_3 with
  | false =>
    replace H := let_hid H
    obtain ⟨t_4, ht_4, H⟩ := H
    obtain rfl : t_4 = true := ht_4.symm
    replace H := join_hid H
    replace H := ite_t H
    replace H := app_hid H
    replace H := ite_t H
    cases ret_hid H
    go_wp2_with fail
    go_ret2
    exact ⟨rfl, HBwt_3.out⟩
  | true =>
    replace H := let_hid H
    obtain ⟨t_4, ht_4, H⟩ := H
    obtain rfl : t_4 = false := ht_4.symm
    replace H := join_hid H
    replace H := ite_f H
    replace H := bind_hid H
    obtain ⟨t_7, qt_7, H⟩ := H
    go_wp2_with fail
    go_at_call 48
    refine (Go.Proofs.Ytgfepdfamhnppaa.GsL5Gauge.C (gauge)  _   qt_7).mono ?_
    rintro e_t_7 wt_7 ⟨rfl, bt_7⟩
    have HBwt_7 := Lib.hid (Below.step HBwt_3.out bt_7)
    clear bt_7
    cases t_7 with
    | false =>
      replace H := let_hid H
      obtain ⟨t_8, ht_8, H⟩ := H
      obtain rfl : t_8 = true := ht_8.symm
      replace H := app_hid H
      replace H := ite_t H
      cases ret_hid H
      go_wp2_with fail
      go_ret2
      exact ⟨rfl, HBwt_7.out⟩
    | true =>
      replace H := let_hid H
      obtain ⟨t_8, ht_8, H⟩ := H
      obtain rfl : t_8 = false := ht_8.symm
      replace H := app_hid H
      replace H := ite_f H
      go_wp2_with fail
      go_loopg [6, 7] (fuel) (fun m_ v6_ v7_ wr => ∃ (sum_6l0 : Int) (i_7l0 : Int), v6_ = .int .i64 sum_6l0 ∧ v7_ = .int .i64 i_7l0 ∧ Hid (loopK (l0 holes gauge) m_ (sum_6l0, i_7l0) (e0 ) = some (r0, r1)) ∧ Hid (Below w.heap.size w wr))
      case atStart => exact ⟨_, _, rfl, rfl, H, HBwt_7⟩
      case round =>
        obtain ⟨sum_6l0, i_7l0, rfl, rfl, H, HBwr0⟩ := hrel
        rename World => wr0
        cases gk with
        | zero => exact (loop_zero H).elim
        | succ m0 =>
          replace H := loop_succ H
          unfold l0 at H
          replace H := unp2_hid H
          replace H := let_hid H
          obtain ⟨t_17, ht_17, H⟩ := H
          cases t_17 with
          | false =>
            replace H := ite_f H
            replace H := app_hid H
            unfold e0 at H
            replace H := unp2_hid H
            cases ret_hid H
            go_wp2_with fail
            go_ret2
            exact ⟨rfl, HBwr0.out⟩
          | true =>
            replace H := ite_t H
            go_wp2_with fail
            replace H := idx_hid H
            obtain ⟨nt_21, yt_21, et_21, lt_21, gt_21, H⟩ := H
            subst et_21
            obtain ⟨ab_t_21, ao_t_21, zt_21, At_21, z_t_21, ct_21_0⟩ := Go.Proofs.Ytgfepdfamhnppaa.HelpInt.Ints.at_ M0.out lt_21
            obtain rfl := Option.some.inj (gt_21.out.symm.trans z_t_21)
            subst At_21
            have ltt_21 := cell_lt ct_21_0
            replace ct_21_0 := cell_below HBwr0.out ct_21_0
            clear z_t_21
            have b0t_21 : (0 : Int) ≤ (nt_21 : Int) := by omega
            have b1t_21 : (nt_21 : Int) < ((holes.length : Nat) : Int) := by omega
            have b2t_21 : ((nt_21 : Int)).toNat = nt_21 := by omega
            have Hct_21_0 := Lib.hid ct_21_0
            replace ct_21_0 := cell_regrown ct_21_0
            replace H := let_hid H
            obtain ⟨t_25, ht_25, H⟩ := H
            replace H := idx_hid H
            obtain ⟨nt_26, yt_26, et_26, lt_26, gt_26, H⟩ := H
            subst et_26
            obtain ⟨ab_t_26, ao_t_26, zt_26, At_26, z_t_26, ct_26_0⟩ := Go.Proofs.Ytgfepdfamhnppaa.HelpInt.Ints.at_ M0.out lt_26
            obtain rfl := Option.some.inj (gt_26.out.symm.trans z_t_26)
            simp only [Option.some.injEq, Addr.mk.injEq] at At_26
            obtain ⟨rfl, rfl, _⟩ := At_26
            have ltt_26 := cell_lt ct_26_0
            replace ct_26_0 := cell_below HBwr0.out ct_26_0
            clear z_t_26
            have b0t_26 : (0 : Int) ≤ (nt_26 : Int) := by omega
            have b1t_26 : (nt_26 : Int) < ((holes.length : Nat) : Int) := by omega
            have b2t_26 : ((nt_26 : Int)).toNat = nt_26 := by omega
            have Hct_26_0 := Lib.hid ct_26_0
            replace ct_26_0 := cell_regrown ct_26_0
            replace H := let_hid H
            obtain ⟨t_28, ht_28, H⟩ := H
            replace H := let_hid H
            obtain ⟨t_29, ht_29, H⟩ := H
            replace H := let_hid H
            obtain ⟨t_31, ht_31, H⟩ := H
            replace H := let_hid H
            obtain ⟨t_32, ht_32, H⟩ := H
            replace H := let_hid H
            obtain ⟨t_33, ht_33, H⟩ := H
            replace H := let_hid H
            obtain ⟨t_34, ht_34, H⟩ := H
            replace H := bind_hid H
            obtain ⟨t_35, qt_35, H⟩ := H
            have nt_35 : ∀ d os, Calls Try.prog 52 #[.int .i64 0, .int .i64 t_34] (Go.Sort.grow (redrawn wr0 d) os) fun e w'' => e = .returned (.int .i64 t_35) ∧ ∃ p : Regrown, w'' = Go.Sort.grow (redrawn wr0 p.d) p.os := fun d os => Calls.regrown_of (Go.Proofs.Ytgfepdfamhnppaa.GsL1Most.C (0) (t_34)  _   qt_35)
            replace H := let_hid H
            obtain ⟨t_36, ht_36, H⟩ := H
            refine wp_region_quiet_below (by kernel_rfl) (by kernel_rfl) ?_
            repeat (go_big_quiet_step (first | (go_at_call 52; exact nt_35 _ _)))
            refine wpQuiet_nil ?_
            intro Y7 hY7
            replace hY7 := below_class hY7
            clear nt_35
            replace ct_21_0 := Hct_21_0.out
            clear Hct_21_0
            replace ct_26_0 := Hct_26_0.out
            clear Hct_26_0
            have HBY7 := Lib.hid (Below.step HBwr0.out hY7)
            replace ct_21_0 := cell_below hY7 ct_21_0
            replace ct_26_0 := cell_below hY7 ct_26_0
            clear hY7
            replace H := let_hid H
            obtain ⟨t_39, ht_39, H⟩ := H
            replace H := app_hid H
            go_wp2_with fail
            go_roundg m0
            case measure => omega
            case rel => exact ⟨_, _, rfl, rfl, H, HBY7⟩
end Go.Proofs.Ytgfepdfamhnppaa.GsMissingHoles
