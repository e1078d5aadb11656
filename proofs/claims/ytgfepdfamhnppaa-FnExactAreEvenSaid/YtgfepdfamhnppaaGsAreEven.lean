/- loop.example/g01062/spec.AreEven as a plain function, and the contract of the program's: where the plain one has an answer, the program has it. Conditions: slices read as lists. -/
import Derived.Test.YtgfepdfamhnppaaChecked
import Derived.Test.YtgfepdfamhnppaaGoM
import Derived.Test.YtgfepdfamhnppaaHelpInt
import Derived.Test.YtgfepdfamhnppaaGsL5Holes
import Derived.Test.YtgfepdfamhnppaaGsL1Least
import Derived.Test.YtgfepdfamhnppaaGsL1Most
import Derived.WalkKit
import Derived.WalkSpells
import Derived.WalkLawsBesides
import Derived.BigQuiet
import Derived.OwnWalk
import Derived.Deep.LoopGhost
import Derived.Deep.QuietTactic
import Derived.IntWalk
import Derived.Lib.QuietBelow
namespace Go.Proofs.Ytgfepdfamhnppaa.GsAreEven
set_option linter.unusedVariables false
set_option linter.unusedSimpArgs false
open Go.RowKit
open Go.Proofs.Ytgfepdfamhnppaa.Rowed Go.Proofs.Ytgfepdfamhnppaa.Turn Go.Proofs.Ytgfepdfamhnppaa.Aid Go.Proofs.Ytgfepdfamhnppaa.GoP Go.Proofs.Ytgfepdfamhnppaa.GoM

def l0 (holes : (List Int)) (s : Int × Int × Int) (nx0 bk0 : Int × Int × Int → Option (Bool × Bool)) : Option (Bool × Bool) :=
  unp3 s fun least_4l0 most_5l0 i_6l0 =>
  letK (decide (i_6l0 < (holes.length : Int))) fun (t_27 : Bool) =>
  iteK t_27
  (Option.bind (idx holes i_6l0) fun (yt_31 : Int) =>
  letK (IntKind.i64.wrap (i_6l0 - 1)) fun (t_35 : Int) =>
  Option.bind (idx holes t_35) fun (yt_36 : Int) =>
  letK (IntKind.i64.wrap (yt_31 - yt_36)) fun (t_38 : Int) =>
  Option.bind (Go.Proofs.Ytgfepdfamhnppaa.GsL1Least.P least_4l0 t_38) fun (t_39 : Int) =>
  Option.bind (idx holes i_6l0) fun (yt_44 : Int) =>
  letK (IntKind.i64.wrap (i_6l0 - 1)) fun (t_48 : Int) =>
  Option.bind (idx holes t_48) fun (yt_49 : Int) =>
  letK (IntKind.i64.wrap (yt_44 - yt_49)) fun (t_51 : Int) =>
  Option.bind (Go.Proofs.Ytgfepdfamhnppaa.GsL1Most.P most_5l0 t_51) fun (t_52 : Int) =>
  letK (IntKind.i64.wrap (i_6l0 + 1)) fun (t_55 : Int) =>
  appK nx0 (t_39, t_52, t_55))
  (appK bk0 (least_4l0, most_5l0, i_6l0))

def e0  (s : Int × Int × Int) : Option (Bool × Bool) :=
  unp3 s fun least_4l0 most_5l0 i_6l0 =>
  letK (IntKind.i64.wrap (most_5l0 - least_4l0)) fun (t_59 : Int) =>
  letK (decide (t_59 ≤ 10)) fun (t_60 : Bool) =>
  some (t_60, true)

def P (fuel : Nat) (holes : (List Int)) : Option (Bool × Bool) :=
  Option.bind (Go.Proofs.Ytgfepdfamhnppaa.GsL5Holes.P holes) fun (t_3 : Bool) =>
  letK (!t_3) fun (t_4 : Bool) =>
  iteK t_4
  (some (false, false))
  (Option.bind (idx holes 1) fun (yt_8 : Int) =>
  Option.bind (idx holes 0) fun (yt_11 : Int) =>
  letK (IntKind.i64.wrap (yt_8 - yt_11)) fun (t_13 : Int) =>
  Option.bind (idx holes 1) fun (yt_15 : Int) =>
  Option.bind (idx holes 0) fun (yt_18 : Int) =>
  letK (IntKind.i64.wrap (yt_15 - yt_18)) fun (t_20 : Int) =>
  loopK (l0 holes) fuel (t_13, t_20, 1) (e0 ))

set_option maxRecDepth 100000 in
set_option maxHeartbeats 2000000 in
theorem C (fuel : Nat) (holes : (List Int)) (A0 : Option Addr) (c0 : Nat)  (w : World) (M0 : Hid (Cells w 1 A0 holes.length (Go.Proofs.Ytgfepdfamhnppaa.HelpInt.iv holes))) (N0 : Hid (holes.length ≤ 9223372036854775807))  {r0 : Bool} {r1 : Bool} (H : Hid (P fuel holes = some (r0, r1))) :
    Calls Try.prog 21 #[.slice A0 holes.length c0] w (Gives (.tuple #[.bool r0, .bool r1]) w) := by
  have HB := Lib.hid (Below.refl w.heap.size w)
  unfold P at H
  have N0o := N0.out
  go_enter Try.func21, Try.ntmps21
  replace H := bind_hid H
  obtain ⟨t_3, qt_3, H⟩ := H
  go_wp2_with fail
  go_at_call 47
  refine (Go.Proofs.Ytgfepdfamhnppaa.GsL5Holes.C (holes) A0 c0 _  (Lib.hid (Cells.below M0.out HB.out)) N0 qt_3).mono ?_
  rintro e_t_3 wt_3 ⟨rfl, bt_3⟩
  have HBwt_3 := Lib.hid (Below.step HB.out bt_3)
  clear bt_3
  cases t_3 with
  | false =>
    replace H := let_hid H
    obtain ⟨t_4, ht_4, H⟩ := H
    obtain rfl : t_4 = true := ht_4.symm
    replace H := ite_t H
    cases ret_hid H
    go_wp2_with fail
    go_ret2
    exact ⟨rfl, HBwt_3.out⟩
  | true =>
    replace H := let_hid H
    obtain ⟨t_4, ht_4, H⟩ := H
    obtain rfl : t_4 = false := ht_4.symm
    replace H := ite_f H
    go_wp2_with fail
    replace H := idx_hid H
    obtain ⟨nt_8, yt_8, et_8, lt_8, gt_8, H⟩ := H
    obtain rfl : 1 = nt_8 := by omega
    clear et_8
    obtain ⟨ab_t_8, ao_t_8, zt_8, At_8, z_t_8, ct_8_0⟩ := Go.Proofs.Ytgfepdfamhnppaa.HelpInt.Ints.at_ M0.out lt_8
    obtain rfl := Option.some.inj (gt_8.out.symm.trans z_t_8)
    subst At_8
    have ltt_8 := cell_lt ct_8_0
    replace ct_8_0 := cell_below HBwt_3.out ct_8_0
    clear z_t_8
    have b1t_8 : (1 : Int) < ((holes.length : Nat) : Int) := by omega
    have b3t_8 : 1 < holes.length := by omega
    try simp only [Nat.zero_mul, Nat.add_zero, Nat.zero_add, Nat.reduceMul] at ct_8_0
    have Hct_8_0 := Lib.hid ct_8_0
    replace ct_8_0 := cell_regrown ct_8_0
    replace H := idx_hid H
    obtain ⟨nt_11, yt_11, et_11, lt_11, gt_11, H⟩ := H
    obtain rfl : 0 = nt_11 := by omega
    clear et_11
    obtain ⟨ab_t_11, ao_t_11, zt_11, At_11, z_t_11, ct_11_0⟩ := Go.Proofs.Ytgfepdfamhnppaa.HelpInt.Ints.at_ M0.out lt_11
    obtain rfl := Option.some.inj (gt_11.out.symm.trans z_t_11)
    simp only [Option.some.injEq, Addr.mk.injEq] at At_11
    obtain ⟨rfl, rfl, _⟩ := At_11
    have ltt_11 := cell_lt ct_11_0
    replace ct_11_0 := cell_below HBwt_3.out ct_11_0
    clear z_t_11
    have b1t_11 : (0 : Int) < ((holes.length : Nat) : Int) := by omega
    have b3t_11 : 0 < holes.length := by omega
    try simp only [Nat.zero_mul, Nat.add_zero, Nat.zero_add, Nat.reduceMul] at ct_11_0
    have Hct_11_0 := Lib.hid ct_11_0
    replace ct_11_0 := cell_regrown ct_11_0
    replace H := let_hid H
    obtain ⟨t_13, ht_13, H⟩ := H
    replace H := idx_hid H
    obtain ⟨nt_15, yt_15, et_15, lt_15, gt_15, H⟩ := H
    obtain rfl : 1 = nt_15 := by omega
    clear et_15
    obtain rfl := Option.some.inj (gt_8.out.symm.trans gt_15.out)
    clear gt_15 lt_15
    replace H := idx_hid H
    obtain ⟨nt_18, yt_18, et_18, lt_18, gt_18, H⟩ := H
    obtain rfl : 0 = nt_18 := by omega
    clear et_18
    obtain rfl := Option.some.inj (gt_11.out.symm.trans gt_18.out)
    clear gt_18 lt_18
    replace H := let_hid H
    obtain ⟨t_20, ht_20, H⟩ := H
    obtain rfl := ht_13.symm.trans ht_20
    refine wp_region_quiet_below (by kernel_rfl) (by kernel_rfl) ?_
    repeat (go_big_quiet_step (fail))
    refine wpQuiet_nil ?_
    intro Y3 hY3
    replace hY3 := below_class hY3
    replace ct_8_0 := Hct_8_0.out
    clear Hct_8_0
    replace ct_11_0 := Hct_11_0.out
    clear Hct_11_0
    have HBY3 := Lib.hid (Below.step HBwt_3.out hY3)
    replace ct_8_0 := cell_below hY3 ct_8_0
    replace ct_11_0 := cell_below hY3 ct_11_0
    clear hY3
    go_wp2_with fail
    go_loopg [4, 5, 6] (fuel) (fun m_ v4_ v5_ v6_ wr => ∃ (least_4l0 : Int) (most_5l0 : Int) (i_6l0 : Int), v4_ = .int .i64 least_4l0 ∧ v5_ = .int .i64 most_5l0 ∧ v6_ = .int .i64 i_6l0 ∧ Hid (loopK (l0 holes) m_ (least_4l0, most_5l0, i_6l0) (e0 ) = some (r0, r1)) ∧ Hid (Below w.heap.size w wr))
    case atStart => exact ⟨_, _, _, rfl, rfl, rfl, H, HBY3⟩
    case round =>
      obtain ⟨least_4l0, most_5l0, i_6l0, rfl, rfl, rfl, H, HBwr0⟩ := hrel
      rename World => wr0
      cases gk with
      | zero => exact (loop_zero H).elim
      | succ m0 =>
        replace H := loop_succ H
        unfold l0 at H
        replace H := unp3_hid H
        replace H := let_hid H
        obtain ⟨t_27, ht_27, H⟩ := H
        cases t_27 with
        | false =>
          replace H := ite_f H
          replace H := app_hid H
          unfold e0 at H
          replace H := unp3_hid H
          replace H := let_hid H
          obtain ⟨t_59, ht_59, H⟩ := H
          replace H := let_hid H
          obtain ⟨t_60, ht_60, H⟩ := H
          cases ret_hid H
          go_wp2_with fail
          go_ret2
          exact ⟨rfl, HBwr0.out⟩
        | true =>
          replace H := ite_t H
          go_wp2_with fail
          replace H := idx_hid H
          obtain ⟨nt_31, yt_31, et_31, lt_31, gt_31, H⟩ := H
          subst et_31
          obtain ⟨ab_t_31, ao_t_31, zt_31, At_31, z_t_31, ct_31_0⟩ := Go.Proofs.Ytgfepdfamhnppaa.HelpInt.Ints.at_ M0.out lt_31
          obtain rfl := Option.some.inj (gt_31.out.symm.trans z_t_31)
          simp only [Option.some.injEq, Addr.mk.injEq] at At_31
          obtain ⟨rfl, rfl, _⟩ := At_31
          have ltt_31 := cell_lt ct_31_0
          replace ct_31_0 := cell_below HBwr0.out ct_31_0
          clear z_t_31
          have b0t_31 : (0 : Int) ≤ (nt_31 : Int) := by omega
          have b1t_31 : (nt_31 : Int) < ((holes.length : Nat) : Int) := by omega
          have b2t_31 : ((nt_31 : Int)).toNat = nt_31 := by omega
          have Hct_31_0 := Lib.hid ct_31_0
          replace ct_31_0 := cell_regrown ct_31_0
          replace H := let_hid H
          obtain ⟨t_35, ht_35, H⟩ := H
          replace H := idx_hid H
          obtain ⟨nt_36, yt_36, et_36, lt_36, gt_36, H⟩ := H
          subst et_36
          obtain ⟨ab_t_36, ao_t_36, zt_36, At_36, z_t_36, ct_36_0⟩ := Go.Proofs.Ytgfepdfamhnppaa.HelpInt.Ints.at_ M0.out lt_36
          obtain rfl := Option.some.inj (gt_36.out.symm.trans z_t_36)
          simp only [Option.some.injEq, Addr.mk.injEq] at At_36
          obtain ⟨rfl, rfl, _⟩ := At_36
          have ltt_36 := cell_lt ct_36_0
          replace ct_36_0 := cell_below HBwr0.out ct_36_0
          clear z_t_36
          have b0t_36 : (0 : Int) ≤ (nt_36 : Int) := by omega
          have b1t_36 : (nt_36 : Int) < ((holes.length : Nat) : Int) := by omega
          have b2t_36 : ((nt_36 : Int)).toNat = nt_36 := by omega
          have Hct_36_0 := Lib.hid ct_36_0
          replace ct_36_0 := cell_regrown ct_36_0
          replace H := let_hid H
          obtain ⟨t_38, ht_38, H⟩ := H
          replace H := bind_hid H
          obtain ⟨t_39, qt_39, H⟩ := H
          have nt_39 : ∀ d os, Calls Try.prog 51 #[.int .i64 least_4l0, .int .i64 t_38] (Go.Sort.grow (redrawn wr0 d) os) fun e w'' => e = .returned (.int .i64 t_39) ∧ ∃ p : Regrown, w'' = Go.Sort.grow (redrawn wr0 p.d) p.os := fun d os => Calls.regrown_of (Go.Proofs.Ytgfepdfamhnppaa.GsL1Least.C (least_4l0) (t_38)  _   qt_39)
          refine wp_region_quiet_below (by kernel_rfl) (by kernel_rfl) ?_
          repeat (go_big_quiet_step (first | (go_at_call 51; exact nt_39 _ _)))
          refine wpQuiet_nil ?_
          intro Y7 hY7
          replace hY7 := below_class hY7
          clear nt_39
          replace ct_31_0 := Hct_31_0.out
          clear Hct_31_0
          replace ct_36_0 := Hct_36_0.out
          clear Hct_36_0
          have HBY7 := Lib.hid (Below.step HBwr0.out hY7)
          replace ct_31_0 := cell_below hY7 ct_31_0
          replace ct_36_0 := cell_below hY7 ct_36_0
          clear hY7
          go_wp2_with fail
          have Hct_31_0 := Lib.hid ct_31_0
          replace ct_31_0 := cell_regrown ct_31_0
          have Hct_36_0 := Lib.hid ct_36_0
          replace ct_36_0 := cell_regrown ct_36_0
          replace H := idx_hid H
          obtain ⟨nt_44, yt_44, et_44, lt_44, gt_44, H⟩ := H
          obtain rfl : nt_31 = nt_44 := by omega
          clear et_44
          obtain rfl := Option.some.inj (gt_31.out.symm.trans gt_44.out)
          clear gt_44 lt_44
          replace H := let_hid H
          obtain ⟨t_48, ht_48, H⟩ := H
          obtain rfl := ht_35.symm.trans ht_48
          replace H := idx_hid H
          obtain ⟨nt_49, yt_49, et_49, lt_49, gt_49, H⟩ := H
          obtain rfl : nt_36 = nt_49 := by omega
          clear et_49
          obtain rfl := Option.some.inj (gt_36.out.symm.trans gt_49.out)
          clear gt_49 lt_49
          replace H := let_hid H
          obtain ⟨t_51, ht_51, H⟩ := H
          obtain rfl := ht_38.symm.trans ht_51
          replace H := bind_hid H
          obtain ⟨t_52, qt_52, H⟩ := H
          have nt_52 : ∀ d os, Calls Try.prog 52 #[.int .i64 most_5l0, .int .i64 t_38] (Go.Sort.grow (redrawn Y7 d) os) fun e w'' => e = .returned (.int .i64 t_52) ∧ ∃ p : Regrown, w'' = Go.Sort.grow (redrawn Y7 p.d) p.os := fun d os => Calls.regrown_of (Go.Proofs.Ytgfepdfamhnppaa.GsL1Most.C (most_5l0) (t_38)  _   qt_52)
          refine wp_region_quiet_below (by kernel_rfl) (by kernel_rfl) ?_
          repeat (go_big_quiet_step (first | (go_at_call 52; exact nt_52 _ _)))
          refine wpQuiet_nil ?_
          intro Y8 hY8
          replace hY8 := below_class hY8
          clear nt_52
          replace ct_31_0 := Hct_31_0.out
          clear Hct_31_0
          replace ct_36_0 := Hct_36_0.out
          clear Hct_36_0
          have HBY8 := Lib.hid (Below.step HBY7.out hY8)
          replace ct_31_0 := cell_below hY8 ct_31_0
          replace ct_36_0 := cell_below hY8 ct_36_0
          clear hY8
          replace H := let_hid H
          obtain ⟨t_55, ht_55, H⟩ := H
          replace H := app_hid H
          go_wp2_with fail
          go_roundg m0
          case measure => omega
          case rel => exact ⟨_, _, _, rfl, rfl, rfl, H, HBY8⟩
end Go.Proofs.Ytgfepdfamhnppaa.GsAreEven
