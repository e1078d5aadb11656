/- loop.example/g01062/impl.GaugeOf as a plain function, and the contract of the program's: where the plain one has an answer, the program has it. Conditions: slices read as lists. -/
import Derived.Test.YtgfepdfamhnppaaChecked
import Derived.Test.YtgfepdfamhnppaaGoM
import Derived.Test.YtgfepdfamhnppaaHelpInt
import Derived.Test.YtgfepdfamhnppaaGiAreHoles
import Derived.Test.YtgfepdfamhnppaaGiIsGauge
import Derived.WalkKit
import Derived.WalkSpells
import Derived.WalkLawsBesides
import Derived.BigQuiet
import Derived.OwnWalk
import Derived.Deep.LoopGhost
import Derived.Deep.QuietTactic
import Derived.IntWalk
import Derived.Lib.QuietBelow
namespace Go.Proofs.Ytgfepdfamhnppaa.GiGaugeOf
set_option linter.unusedVariables false
set_option linter.unusedSimpArgs false
open Go.RowKit
open Go.Proofs.Ytgfepdfamhnppaa.Rowed Go.Proofs.Ytgfepdfamhnppaa.Turn Go.Proofs.Ytgfepdfamhnppaa.Aid Go.Proofs.Ytgfepdfamhnppaa.GoP Go.Proofs.Ytgfepdfamhnppaa.GoM

def P (holes : (List Int)) : Option (Int × Bool) :=
  Option.bind (Go.Proofs.Ytgfepdfamhnppaa.GiAreHoles.P holes) fun (t_3 : Bool) =>
  letK (!t_3) fun (t_4 : Bool) =>
  iteK t_4
  (some (0, false))
  (letK (IntKind.i64.wrap ((holes.length : Int) - 1)) fun (t_9 : Int) =>
  letK (IntKind.i64.wrap (200000 * t_9)) fun (t_12 : Int) =>
  Option.bind (idx holes t_9) fun (yt_15 : Int) =>
  Option.bind (idx holes 0) fun (yt_18 : Int) =>
  letK (IntKind.i64.wrap (yt_15 - yt_18)) fun (t_20 : Int) =>
  guardK (¬ (t_20 = 0)) <|
  letK (IntKind.i64.wrap (Int.tdiv t_12 t_20)) fun (t_21 : Int) =>
  Option.bind (Go.Proofs.Ytgfepdfamhnppaa.GiIsGauge.P t_21) fun (t_24 : Bool) =>
  letK (!t_24) fun (t_25 : Bool) =>
  iteK t_25
  (some (0, false))
  (some (t_21, true)))

set_option maxRecDepth 100000 in
set_option maxHeartbeats 2000000 in
theorem C (holes : (List Int)) (A0 : Option Addr) (c0 : Nat)  (w : World) (M0 : Hid (Cells w 1 A0 holes.length (Go.Proofs.Ytgfepdfamhnppaa.HelpInt.iv holes))) (N0 : Hid (holes.length ≤ 9223372036854775807))  {r0 : Int} {r1 : Bool} (H : Hid (P holes = some (r0, r1))) :
    Calls Try.prog 19 #[.slice A0 holes.length c0] w (Gives (.tuple #[.int .i64 r0, .bool r1]) w) := by
  have HB := Lib.hid (Below.refl w.heap.size w)
  unfold P at H
  have N0o := N0.out
  go_enter Try.func19, Try.ntmps19
  replace H := bind_hid H
  obtain ⟨t_3, qt_3, H⟩ := H
  go_wp2_with fail
  go_at_call 49
  refine (Go.Proofs.Ytgfepdfamhnppaa.GiAreHoles.C (holes) A0 c0 _  (Lib.hid (Cells.below M0.out HB.out)) N0 qt_3).mono ?_
  rintro e_t_3 wt_3 ⟨rfl, bt_3⟩
  have HBwt_3 := Lib.hid (Below.step HB.out bt_3)
  clear bt_3
  cases t_3 with
  | false =>
    replace H := let_hid H
    obtain ⟨t_4, ht_4, H⟩ := H
    obtain rfl : t_4 = true := ht_4.symm
    replace H := ite_t H
    cases ret_hid H
    go_wp2_with fail
    go_ret2
    exact ⟨rfl, HBwt_3.out⟩
  | true =>
    replace H := let_hid H
    obtain ⟨t_4, ht_4, H⟩ := H
    obtain rfl : t_4 = false := ht_4.symm
    replace H := ite_f H
    replace H := let_hid H
    obtain ⟨t_9, ht_9, H⟩ := H
    go_wp2_with fail
    replace H := let_hid H
    obtain ⟨t_12, ht_12, H⟩ := H
    replace H := idx_hid H
    obtain ⟨nt_15, yt_15, et_15, lt_15, gt_15, H⟩ := H
    subst et_15
    obtain ⟨ab_t_15, ao_t_15, zt_15, At_15, z_t_15, ct_15_0⟩ := Go.Proofs.Ytgfepdfamhnppaa.HelpInt.Ints.at_ M0.out lt_15
    obtain rfl := Option.some.inj (gt_15.out.symm.trans z_t_15)
    subst At_15
    have ltt_15 := cell_lt ct_15_0
    replace ct_15_0 := cell_below HBwt_3.out ct_15_0
    clear z_t_15
    have b0t_15 : (0 : Int) ≤ (nt_15 : Int) := by omega
    have b1t_15 : (nt_15 : Int) < ((holes.length : Nat) : Int) := by omega
    have b2t_15 : ((nt_15 : Int)).toNat = nt_15 := by omega
    have Hct_15_0 := Lib.hid ct_15_0
    replace ct_15_0 := cell_regrown ct_15_0
    replace H := idx_hid H
    obtain ⟨nt_18, yt_18, et_18, lt_18, gt_18, H⟩ := H
    obtain rfl : 0 = nt_18 := by omega
    clear et_18
    obtain ⟨ab_t_18, ao_t_18, zt_18, At_18, z_t_18, ct_18_0⟩ := Go.Proofs.Ytgfepdfamhnppaa.HelpInt.Ints.at_ M0.out lt_18
    obtain rfl := Option.some.inj (gt_18.out.symm.trans z_t_18)
    simp only [Option.some.injEq, Addr.mk.injEq] at At_18
    obtain ⟨rfl, rfl, _⟩ := At_18
    have ltt_18 := cell_lt ct_18_0
    replace ct_18_0 := cell_below HBwt_3.out ct_18_0
    clear z_t_18
    have b1t_18 : (0 : Int) < ((holes.length : Nat) : Int) := by omega
    have b3t_18 : 0 < holes.length := by omega
    simp only [Nat.zero_mul, Nat.add_zero, Nat.zero_add, Nat.reduceMul] at ct_18_0
    have Hct_18_0 := Lib.hid ct_18_0
    replace ct_18_0 := cell_regrown ct_18_0
    replace H := let_hid H
    obtain ⟨t_20, ht_20, H⟩ := H
    replace H := guard_hid H
    obtain ⟨hz_t_21, H⟩ := H
    replace H := let_hid H
    obtain ⟨t_21, ht_21, H⟩ := H
    refine wp_region_quiet_below (by kernel_rfl) (by kernel_rfl) ?_
    repeat (go_big_quiet_step (fail))
    refine wpQuiet_nil ?_
    intro Y4 hY4
    replace hY4 := below_class hY4
    replace ct_15_0 := Hct_15_0.out
    clear Hct_15_0
    replace ct_18_0 := Hct_18_0.out
    clear Hct_18_0
    have HBY4 := Lib.hid (Below.step HBwt_3.out hY4)
    replace ct_15_0 := cell_below hY4 ct_15_0
    replace ct_18_0 := cell_below hY4 ct_18_0
    clear hY4
    replace H := bind_hid H
    obtain ⟨t_24, qt_24, H⟩ := H
    go_wp2_with fail
    go_at_call 50
    refine (Go.Proofs.Ytgfepdfamhnppaa.GiIsGauge.C (t_21)  _   qt_24).mono ?_
    rintro e_t_24 wt_24 ⟨rfl, bt_24⟩
    have HBwt_24 := Lib.hid (Below.step HBY4.out bt_24)
    replace ct_15_0 := cell_below bt_24 ct_15_0
    replace ct_18_0 := cell_below bt_24 ct_18_0
    clear bt_24
    cases t_24 with
    | false =>
      replace H := let_hid H
      obtain ⟨t_25, ht_25, H⟩ := H
      obtain rfl : t_25 = true := ht_25.symm
      replace H := ite_t H
      cases ret_hid H
      go_wp2_with fail
      go_ret2
      exact ⟨rfl, HBwt_24.out⟩
    | true =>
      replace H := let_hid H
      obtain ⟨t_25, ht_25, H⟩ := H
      obtain rfl : t_25 = false := ht_25.symm
      replace H := ite_f H
      cases ret_hid H
      go_wp2_with fail
      go_ret2
      exact ⟨rfl, HBwt_24.out⟩
end Go.Proofs.Ytgfepdfamhnppaa.GiGaugeOf
