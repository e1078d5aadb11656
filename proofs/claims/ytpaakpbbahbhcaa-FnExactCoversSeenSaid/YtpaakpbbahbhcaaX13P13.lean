/- Texts on which the proofs of several laws stand, one behind the other (13 of 20). No condition of their own. -/
import Derived.Test.YtpaakpbbahbhcaaChecked
import Derived.Test.YtpaakpbbahbhcaaX13P1
import Derived.Test.YtpaakpbbahbhcaaX13P2
import Derived.Test.YtpaakpbbahbhcaaX13P6
import Derived.Test.YtpaakpbbahbhcaaX13P8
import Derived.Test.YtpaakpbbahbhcaaX13P3
import Derived.WalkKit
import Derived.WalkSpells
import Derived.WalkLawsBesides
import Derived.BigQuiet
import Derived.OwnWalk
import Derived.Deep.LoopGhost
import Derived.Deep.QuietTactic
import Derived.IntWalk
import Derived.Lib.QuietBelow
import Derived.Test.YtpaakpbbahbhcaaX13P9
import Derived.Test.YtpaakpbbahbhcaaX13P4
/- loop.example/g01062/laws.FnExactCoversSeen as a plain function, and the contract of the program's: where the plain one has an answer, the program has it. Conditions: slices read as lists. -/
namespace Go.Proofs.Ytpaakpbbahbhcaa.GlFnExactCoversSeen
set_option linter.unusedVariables false
set_option linter.unusedSimpArgs false
open Go.RowKit
open Go.Proofs.Ytpaakpbbahbhcaa.Rowed Go.Proofs.Ytpaakpbbahbhcaa.Turn Go.Proofs.Ytpaakpbbahbhcaa.Aid Go.Proofs.Ytpaakpbbahbhcaa.GoP Go.Proofs.Ytpaakpbbahbhcaa.GoM

def P (fuel : Nat) (aList : (List Go.Proofs.Ytpaakpbbahbhcaa.PSighting.Sighting)) (aLimit : Int) : Option (Bool) :=
  Option.bind (Go.Proofs.Ytpaakpbbahbhcaa.GlSzSightingS.P aList 1048576) fun (t_4 : Int) =>
  letK (decide (t_4 < 0)) fun (t_7 : Bool) =>
  iteK t_7
  (some true)
  (Option.bind (Go.Proofs.Ytpaakpbbahbhcaa.GlToSightingS.P aList) fun (t_10 : (List Go.Proofs.Ytpaakpbbahbhcaa.PSighting.Sighting)) =>
  bind2 (Go.Proofs.Ytpaakpbbahbhcaa.GsCoversSeen.P fuel t_10 aLimit) fun (t_12a : (List (List Int))) (t_12b : Bool) =>
  Option.bind (Go.Proofs.Ytpaakpbbahbhcaa.GlToSightingS.P aList) fun (t_19 : (List Go.Proofs.Ytpaakpbbahbhcaa.PSighting.Sighting)) =>
  bind2 (Go.Proofs.Ytpaakpbbahbhcaa.GiCoversSeen.P t_19 aLimit) fun (t_23a : (List (List Int))) (t_23b : Bool) =>
  Option.bind (Go.Proofs.Ytpaakpbbahbhcaa.GlEqIntSS.P t_23a t_12a) fun (t_31 : Bool) =>
  letK (!t_31) fun (t_32 : Bool) =>
  joinK (fun (t_37 : Bool) =>
  iteK t_37
  (some false)
  (Option.bind (Go.Proofs.Ytpaakpbbahbhcaa.GlToSightingS.P aList) fun (t_41 : (List Go.Proofs.Ytpaakpbbahbhcaa.PSighting.Sighting)) =>
  Option.bind (Go.Proofs.Ytpaakpbbahbhcaa.GlEqSightingS.P t_19 t_41) fun (t_42 : Bool) =>
  letK (!t_42) fun (t_43 : Bool) =>
  iteK t_43
  (some false)
  (bind2 (Go.Proofs.Ytpaakpbbahbhcaa.GlMarkSightingS.P t_19 1) fun (t_48 : Int) (lt_48 : (List Go.Proofs.Ytpaakpbbahbhcaa.PSighting.Sighting)) =>
  letK (decide (t_48 < 0)) fun (t_51 : Bool) =>
  joinK (fun (t_57 : Bool) =>
  joinK (fun (t_62 : Bool) =>
  iteK t_62
  (some false)
  (bind2 (Go.Proofs.Ytpaakpbbahbhcaa.GlMarkIntSS.P t_23a 1) fun (t_67 : Int) (lt_67 : (List (List Int))) =>
  Option.bind (Go.Proofs.Ytpaakpbbahbhcaa.GlHeldIntSS.P lt_67 1) fun (t_72 : Int) =>
  letK (decide (t_72 < 0)) fun (t_75 : Bool) =>
  iteK t_75
  (some false)
  (letK (t_72 != t_67) fun (t_79 : Bool) =>
  iteK t_79
  (some false)
  (Option.bind (Go.Proofs.Ytpaakpbbahbhcaa.GlToSightingS.P aList) fun (t_82 : (List Go.Proofs.Ytpaakpbbahbhcaa.PSighting.Sighting)) =>
  bind2 (Go.Proofs.Ytpaakpbbahbhcaa.GiCoversSeen.P t_82 aLimit) fun (t_84a : (List (List Int))) (t_84b : Bool) =>
  Option.bind (Go.Proofs.Ytpaakpbbahbhcaa.GlEqIntSS.P t_84a t_12a) fun (t_92 : Bool) =>
  letK (!t_92) fun (t_93 : Bool) =>
  joinK (fun (t_98 : Bool) =>
  iteK t_98
  (some false)
  (Option.bind (Go.Proofs.Ytpaakpbbahbhcaa.GlHeldIntSS.P lt_67 1) fun (t_103 : Int) =>
  letK (decide (t_103 < 0)) fun (t_106 : Bool) =>
  iteK t_106
  (some false)
  (letK (t_103 != t_67) fun (t_110 : Bool) =>
  iteK t_110
  (some false)
  (some true)))) fun jt_98 => iteK t_93 (appK jt_98 true) (letK (!(t_84b == t_12b)) fun (t_97 : Bool) =>
  appK jt_98 t_97))))) fun jt_62 => iteK t_57 (appK jt_62 true) (letK (!(t_23b == t_12b)) fun (t_61 : Bool) =>
  appK jt_62 t_61)) fun jt_57 => iteK t_51 (appK jt_57 true) (Option.bind (Go.Proofs.Ytpaakpbbahbhcaa.GlEqIntSS.P t_23a t_12a) fun (t_55 : Bool) =>
  letK (!t_55) fun (t_56 : Bool) =>
  appK jt_57 t_56)))) fun jt_37 => iteK t_32 (appK jt_37 true) (letK (!(t_23b == t_12b)) fun (t_36 : Bool) =>
  appK jt_37 t_36))

set_option maxRecDepth 100000 in
set_option maxHeartbeats 2000000 in
theorem C (fuel : Nat) (aList : (List Go.Proofs.Ytpaakpbbahbhcaa.PSighting.Sighting)) (aLimit : Int) (A0 : Option Addr) (c0 : Nat)  (w : World) (M0 : Hid (Go.Proofs.Ytpaakpbbahbhcaa.GoV.ReadNest w Go.Proofs.Ytpaakpbbahbhcaa.GoVSighting.lay A0 aList)) (N0 : Hid (aList.length ≤ 9223372036854775807))  {r : Bool} (H : Hid (P fuel aList aLimit = some r)) :
    Calls Try.prog 6 #[.slice A0 aList.length c0, .int .i64 aLimit] w (Gives (.bool r) w) := by
  have HB := Lib.hid (Below.refl w.heap.size w)
  unfold P at H
  have N0o := N0.out
  go_enter Try.func6, Try.ntmps6
  replace H := bind_hid H
  obtain ⟨t_4, qt_4, H⟩ := H
  go_wp2_with fail
  go_at_call 30
  refine (Go.Proofs.Ytpaakpbbahbhcaa.GlSzSightingS.C (aList) (1048576) A0 c0 _   (Lib.hid (Go.Proofs.Ytpaakpbbahbhcaa.GoV.read_below M0.out HB.out)) N0 qt_4).mono ?_
  rintro e_t_4 wt_4 ⟨rfl, bt_4⟩
  have HBwt_4 := Lib.hid (Below.step HB.out bt_4)
  clear bt_4
  replace H := let_hid H
  obtain ⟨t_7, ht_7, H⟩ := H
  cases t_7 with
  | false =>
    replace H := ite_f H
    replace H := bind_hid H
    obtain ⟨t_10, qt_10, H⟩ := H
    go_wp2_with fail
    go_at_call 31
    refine (Go.Proofs.Ytpaakpbbahbhcaa.GlToSightingS.C (aList) A0 c0 _   (Lib.hid (Go.Proofs.Ytpaakpbbahbhcaa.GoV.read_below M0.out HBwt_4.out)) N0 qt_10).mono ?_
    rintro e_t_10 wt_10 ⟨At_10, ct_10, rfl, ⟨Bt_10, ot_10⟩, bt_10⟩
    have Ot_10 := Lib.hid (Go.Proofs.Ytpaakpbbahbhcaa.GoV.nest_lower ot_10 HBwt_4.out.size)
    clear ot_10
    have HBwt_10 := Lib.hid (Below.step HBwt_4.out bt_10)
    clear bt_10
    replace H := bind2_hid H
    obtain ⟨t_12a, t_12b, qt_12, H⟩ := H
    go_wp2_with fail
    go_at_call 23
    refine (Go.Proofs.Ytpaakpbbahbhcaa.GsCoversSeen.C fuel (t_10) (aLimit) At_10 ct_10 _   (Lib.hid (Go.Proofs.Ytpaakpbbahbhcaa.GoV.nest_read Ot_10.out)) (Lib.hid (Go.Proofs.Ytpaakpbbahbhcaa.GoV.nest_max Ot_10.out)) qt_12).mono ?_
    rintro e_t_12 wt_12 ⟨At_12a, ct_12a, rfl, ⟨Bt_12a, ot_12a⟩, bt_12⟩
    have Dt_12a_t_10 := Lib.hid (Go.Proofs.Ytpaakpbbahbhcaa.GoV.lts_apart (Go.Proofs.Ytpaakpbbahbhcaa.GoN.nest_lt ot_12a) (Go.Proofs.Ytpaakpbbahbhcaa.GoV.nest_lt Ot_10.out))
    have Ot_12a := Lib.hid (Go.Proofs.Ytpaakpbbahbhcaa.GoN.nest_lower ot_12a HBwt_10.out.size)
    clear ot_12a
    have HBwt_12 := Lib.hid (Below.step HBwt_10.out bt_12)
    replace Ot_10 := Lib.hid (Go.Proofs.Ytpaakpbbahbhcaa.GoV.nest_below Ot_10.out bt_12)
    clear bt_12
    replace H := bind_hid H
    obtain ⟨t_19, qt_19, H⟩ := H
    go_wp2_with fail
    go_at_call 31
    refine (Go.Proofs.Ytpaakpbbahbhcaa.GlToSightingS.C (aList) A0 c0 _   (Lib.hid (Go.Proofs.Ytpaakpbbahbhcaa.GoV.read_below M0.out HBwt_12.out)) N0 qt_19).mono ?_
    rintro e_t_19 wt_19 ⟨At_19, ct_19, rfl, ⟨Bt_19, ot_19⟩, bt_19⟩
    have Dt_19_t_10 := Lib.hid (Go.Proofs.Ytpaakpbbahbhcaa.GoV.lts_apart (Go.Proofs.Ytpaakpbbahbhcaa.GoV.nest_lt ot_19) (Go.Proofs.Ytpaakpbbahbhcaa.GoV.nest_lt Ot_10.out))
    have Dt_19_t_12a := Lib.hid (Go.Proofs.Ytpaakpbbahbhcaa.GoV.lts_apart (Go.Proofs.Ytpaakpbbahbhcaa.GoV.nest_lt ot_19) (Go.Proofs.Ytpaakpbbahbhcaa.GoN.nest_lt Ot_12a.out))
    have Ot_19 := Lib.hid (Go.Proofs.Ytpaakpbbahbhcaa.GoV.nest_lower ot_19 HBwt_12.out.size)
    clear ot_19
    have HBwt_19 := Lib.hid (Below.step HBwt_12.out bt_19)
    replace Ot_10 := Lib.hid (Go.Proofs.Ytpaakpbbahbhcaa.GoV.nest_below Ot_10.out bt_19)
    replace Ot_12a := Lib.hid (Go.Proofs.Ytpaakpbbahbhcaa.GoN.nest_below Ot_12a.out bt_19)
    clear bt_19
    replace H := bind2_hid H
    obtain ⟨t_23a, t_23b, qt_23, H⟩ := H
    go_wp2_with fail
    go_at_call 20
    refine (Go.Proofs.Ytpaakpbbahbhcaa.GiCoversSeen.C (t_19) (aLimit) At_19 ct_19 _   (Lib.hid (Go.Proofs.Ytpaakpbbahbhcaa.GoV.nest_read Ot_19.out)) (Lib.hid (Go.Proofs.Ytpaakpbbahbhcaa.GoV.nest_max Ot_19.out)) (Lib.hid (Go.Proofs.Ytpaakpbbahbhcaa.GoV.nest_room Ot_19.out)) qt_23).mono ?_
    rintro e_t_23 wt_23 ⟨At_23a, ct_23a, rfl, ⟨Bt_23a, ot_23a⟩, bt_23⟩
    have Dt_23a_t_10 := Lib.hid (Go.Proofs.Ytpaakpbbahbhcaa.GoV.lts_apart (Go.Proofs.Ytpaakpbbahbhcaa.GoN.nest_lt ot_23a) (Go.Proofs.Ytpaakpbbahbhcaa.GoV.nest_lt Ot_10.out))
    have Dt_23a_t_12a := Lib.hid (Go.Proofs.Ytpaakpbbahbhcaa.GoN.nest_callnest ot_23a Ot_12a.out)
    have Dt_23a_t_19 := Lib.hid (Go.Proofs.Ytpaakpbbahbhcaa.GoV.lts_apart (Go.Proofs.Ytpaakpbbahbhcaa.GoN.nest_lt ot_23a) (Go.Proofs.Ytpaakpbbahbhcaa.GoV.nest_lt Ot_19.out))
    have Ot_23a := Lib.hid (Go.Proofs.Ytpaakpbbahbhcaa.GoN.nest_lower ot_23a HBwt_19.out.size)
    clear ot_23a
    have HBwt_23 := Lib.hid (Below.step HBwt_19.out bt_23)
    replace Ot_10 := Lib.hid (Go.Proofs.Ytpaakpbbahbhcaa.GoV.nest_below Ot_10.out bt_23)
    replace Ot_12a := Lib.hid (Go.Proofs.Ytpaakpbbahbhcaa.GoN.nest_below Ot_12a.out bt_23)
    replace Ot_19 := Lib.hid (Go.Proofs.Ytpaakpbbahbhcaa.GoV.nest_below Ot_19.out bt_23)
    clear bt_23
    replace H := bind_hid H
    obtain ⟨t_31, qt_31, H⟩ := H
    go_wp2_with fail
    go_at_call 33
    refine (Go.Proofs.Ytpaakpbbahbhcaa.GlEqIntSS.C (t_23a) (t_12a) At_23a ct_23a At_12a ct_12a _   (Lib.hid (Go.Proofs.Ytpaakpbbahbhcaa.GoN.nest_read Ot_23a.out)) (Lib.hid (Go.Proofs.Ytpaakpbbahbhcaa.GoN.nest_max Ot_23a.out)) (Lib.hid (Go.Proofs.Ytpaakpbbahbhcaa.GoN.nest_read Ot_12a.out)) (Lib.hid (Go.Proofs.Ytpaakpbbahbhcaa.GoN.nest_max Ot_12a.out)) qt_31).mono ?_
    rintro e_t_31 wt_31 ⟨rfl, bt_31⟩
    have HBwt_31 := Lib.hid (Below.step HBwt_23.out bt_31)
    replace Ot_10 := Lib.hid (Go.Proofs.Ytpaakpbbahbhcaa.GoV.nest_below Ot_10.out bt_31)
    replace Ot_12a := Lib.hid (Go.Proofs.Ytpaakpbbahbhcaa.GoN.nest_below Ot_12a.out bt_31)
    replace Ot_19 := Lib.hid (Go.Proofs.Ytpaakpbbahbhcaa.GoV.nest_below Ot_19.out bt_31)
    replace Ot_23a := Lib.hid (Go.Proofs.Ytpaakpbbahbhcaa.GoN.nest_below Ot_23a.out bt_31)
    clear bt_31
    cases t_31 with
    | false =>
      replace H := let_hid H
      obtain ⟨t_32, ht_32, H⟩ := H
      obtain rfl : t_32 = true := ht_32.symm
      replace H := join_hid H
      replace H := ite_t H
      replace H := app_hid H
      replace H := ite_t H
      obtain rfl := ret_hid H
      go_wp2_with fail
      go_ret
      exact ⟨rfl, HBwt_31.out⟩
    | true =>
      replace H := let_hid H
      obtain ⟨t_32, ht_32, H⟩ := H
      obtain rfl : t_32 = false := ht_32.symm
      replace H := join_hid H
      replace H := ite_f H
      replace H := let_hid H
      obtain ⟨t_36, ht_36, H⟩ := H
      replace H := app_hid H
      cases t_36 with
      | false =>
        replace H := ite_f H
        replace H := bind_hid H
        obtain ⟨t_41, qt_41, H⟩ := H
        go_wp2_with fail
        go_at_call 31
        refine (Go.Proofs.Ytpaakpbbahbhcaa.GlToSightingS.C (aList) A0 c0 _   (Lib.hid (Go.Proofs.Ytpaakpbbahbhcaa.GoV.read_below M0.out HBwt_31.out)) N0 qt_41).mono ?_
        rintro e_t_41 wt_41 ⟨At_41, ct_41, rfl, ⟨Bt_41, ot_41⟩, bt_41⟩
        have Dt_41_t_10 := Lib.hid (Go.Proofs.Ytpaakpbbahbhcaa.GoV.lts_apart (Go.Proofs.Ytpaakpbbahbhcaa.GoV.nest_lt ot_41) (Go.Proofs.Ytpaakpbbahbhcaa.GoV.nest_lt Ot_10.out))
        have Dt_41_t_12a := Lib.hid (Go.Proofs.Ytpaakpbbahbhcaa.GoV.lts_apart (Go.Proofs.Ytpaakpbbahbhcaa.GoV.nest_lt ot_41) (Go.Proofs.Ytpaakpbbahbhcaa.GoN.nest_lt Ot_12a.out))
        have Dt_41_t_19 := Lib.hid (Go.Proofs.Ytpaakpbbahbhcaa.GoV.lts_apart (Go.Proofs.Ytpaakpbbahbhcaa.GoV.nest_lt ot_41) (Go.Proofs.Ytpaakpbbahbhcaa.GoV.nest_lt Ot_19.out))
        have Dt_41_t_23a := Lib.hid (Go.Proofs.Ytpaakpbbahbhcaa.GoV.lts_apart (Go.Proofs.Ytpaakpbbahbhcaa.GoV.nest_lt ot_41) (Go.Proofs.Ytpaakpbbahbhcaa.GoN.nest_lt Ot_23a.out))
        have Ot_41 := Lib.hid (Go.Proofs.Ytpaakpbbahbhcaa.GoV.nest_lower ot_41 HBwt_31.out.size)
        clear ot_41
        have HBwt_41 := Lib.hid (Below.step HBwt_31.out bt_41)
        replace Ot_10 := Lib.hid (Go.Proofs.Ytpaakpbbahbhcaa.GoV.nest_below Ot_10.out bt_41)
        replace Ot_12a := Lib.hid (Go.Proofs.Ytpaakpbbahbhcaa.GoN.nest_below Ot_12a.out bt_41)
        replace Ot_19 := Lib.hid (Go.Proofs.Ytpaakpbbahbhcaa.GoV.nest_below Ot_19.out bt_41)
        replace Ot_23a := Lib.hid (Go.Proofs.Ytpaakpbbahbhcaa.GoN.nest_below Ot_23a.out bt_41)
        clear bt_41
        replace H := bind_hid H
        obtain ⟨t_42, qt_42, H⟩ := H
        go_wp2_with fail
        go_at_call 32
        refine (Go.Proofs.Ytpaakpbbahbhcaa.GlEqSightingS.C (t_19) (t_41) At_19 ct_19 At_41 ct_41 _   (Lib.hid (Go.Proofs.Ytpaakpbbahbhcaa.GoV.nest_read Ot_19.out)) (Lib.hid (Go.Proofs.Ytpaakpbbahbhcaa.GoV.nest_max Ot_19.out)) (Lib.hid (Go.Proofs.Ytpaakpbbahbhcaa.GoV.nest_read Ot_41.out)) (Lib.hid (Go.Proofs.Ytpaakpbbahbhcaa.GoV.nest_max Ot_41.out)) qt_42).mono ?_
        rintro e_t_42 wt_42 ⟨rfl, bt_42⟩
        have HBwt_42 := Lib.hid (Below.step HBwt_41.out bt_42)
        replace Ot_10 := Lib.hid (Go.Proofs.Ytpaakpbbahbhcaa.GoV.nest_below Ot_10.out bt_42)
        replace Ot_12a := Lib.hid (Go.Proofs.Ytpaakpbbahbhcaa.GoN.nest_below Ot_12a.out bt_42)
        replace Ot_19 := Lib.hid (Go.Proofs.Ytpaakpbbahbhcaa.GoV.nest_below Ot_19.out bt_42)
        replace Ot_23a := Lib.hid (Go.Proofs.Ytpaakpbbahbhcaa.GoN.nest_below Ot_23a.out bt_42)
        replace Ot_41 := Lib.hid (Go.Proofs.Ytpaakpbbahbhcaa.GoV.nest_below Ot_41.out bt_42)
        clear bt_42
        cases t_42 with
        | false =>
          replace H := let_hid H
          obtain ⟨t_43, ht_43, H⟩ := H
          obtain rfl : t_43 = true := ht_43.symm
          replace H := ite_t H
          obtain rfl := ret_hid H
          go_wp2_with fail
          go_ret
          exact ⟨rfl, HBwt_42.out⟩
        | true =>
          replace H := let_hid H
          obtain ⟨t_43, ht_43, H⟩ := H
          obtain rfl : t_43 = false := ht_43.symm
          replace H := ite_f H
          replace H := bind2_hid H
          obtain ⟨t_48, lt_48, qt_48, H⟩ := H
          go_wp2_with fail
          go_at_call 34
          refine (Go.Proofs.Ytpaakpbbahbhcaa.GlMarkSightingS.C (t_19) (1) At_19 ct_19 w.heap.size Bt_19 _   Ot_19 (Lib.hid (Go.Proofs.Ytpaakpbbahbhcaa.GoV.nest_max Ot_19.out))   qt_48).mono ?_
          rintro e_t_48 wt_48 ⟨rfl, ot_48, nt_48, gt_48⟩
          have Pt_48 := Lib.hid ot_48
          have Gt_48 := Lib.hid gt_48
          replace nt_48 := Lib.hid nt_48
          clear ot_48 gt_48
          have HBwt_48 := Lib.hid (Go.Proofs.Ytpaakpbbahbhcaa.GoN.below_nest HBwt_42.out Gt_48.out HBwt_42.out.size (Go.Proofs.Ytpaakpbbahbhcaa.GoV.nest_lt Ot_19.out))
          replace Ot_10 := Lib.hid (Go.Proofs.Ytpaakpbbahbhcaa.GoV.nest_otherN Ot_10.out Gt_48.out (Go.Proofs.Ytpaakpbbahbhcaa.GoN.nest_flip Dt_19_t_10.out))
          replace Ot_12a := Lib.hid (Go.Proofs.Ytpaakpbbahbhcaa.GoN.nest_otherN Ot_12a.out Gt_48.out (Go.Proofs.Ytpaakpbbahbhcaa.GoN.nest_flip Dt_19_t_12a.out))
          replace Ot_23a := Lib.hid (Go.Proofs.Ytpaakpbbahbhcaa.GoN.nest_otherN Ot_23a.out Gt_48.out Dt_23a_t_19.out)
          replace Ot_41 := Lib.hid (Go.Proofs.Ytpaakpbbahbhcaa.GoV.nest_otherN Ot_41.out Gt_48.out Dt_41_t_19.out)
          clear Ot_19 Gt_48
          replace H := let_hid H
          obtain ⟨t_51, ht_51, H⟩ := H
          replace H := join_hid H
          cases t_51 with
          | false =>
            replace H := ite_f H
            replace H := bind_hid H
            obtain ⟨t_55, qt_55, H⟩ := H
            go_wp2_with fail
            go_at_call 33
            refine (Go.Proofs.Ytpaakpbbahbhcaa.GlEqIntSS.C (t_23a) (t_12a) At_23a ct_23a At_12a ct_12a _   (Lib.hid (Go.Proofs.Ytpaakpbbahbhcaa.GoN.nest_read Ot_23a.out)) (Lib.hid (Go.Proofs.Ytpaakpbbahbhcaa.GoN.nest_max Ot_23a.out)) (Lib.hid (Go.Proofs.Ytpaakpbbahbhcaa.GoN.nest_read Ot_12a.out)) (Lib.hid (Go.Proofs.Ytpaakpbbahbhcaa.GoN.nest_max Ot_12a.out)) qt_55).mono ?_
            rintro e_t_55 wt_55 ⟨rfl, bt_55⟩
            have HBwt_55 := Lib.hid (Below.step HBwt_48.out bt_55)
            replace Ot_10 := Lib.hid (Go.Proofs.Ytpaakpbbahbhcaa.GoV.nest_below Ot_10.out bt_55)
            replace Ot_12a := Lib.hid (Go.Proofs.Ytpaakpbbahbhcaa.GoN.nest_below Ot_12a.out bt_55)
            replace Pt_48 := Lib.hid (Go.Proofs.Ytpaakpbbahbhcaa.GoV.nest_below Pt_48.out bt_55)
            replace Ot_23a := Lib.hid (Go.Proofs.Ytpaakpbbahbhcaa.GoN.nest_below Ot_23a.out bt_55)
            replace Ot_41 := Lib.hid (Go.Proofs.Ytpaakpbbahbhcaa.GoV.nest_below Ot_41.out bt_55)
            clear bt_55
            cases t_55 with
            | false =>
              replace H := let_hid H
              obtain ⟨t_56, ht_56, H⟩ := H
              obtain rfl : t_56 = true := ht_56.symm
              replace H := app_hid H
              replace H := join_hid H
              replace H := ite_t H
              replace H := app_hid H
              replace H := ite_t H
              obtain rfl := ret_hid H
              go_wp2_with fail
              go_ret
              exact ⟨rfl, HBwt_55.out⟩
            | true =>
              replace H := let_hid H
              obtain ⟨t_56, ht_56, H⟩ := H
              obtain rfl : t_56 = false := ht_56.symm
              replace H := app_hid H
              replace H := join_hid H
              replace H := ite_f H
              replace H := let_hid H
              obtain ⟨t_61, ht_61, H⟩ := H
              obtain rfl := ht_36.symm.trans ht_61
              replace H := app_hid H
              replace H := ite_f H
              replace H := bind2_hid H
              obtain ⟨t_67, lt_67, qt_67, H⟩ := H
              go_wp2_with fail
              go_at_call 35
              refine (Go.Proofs.Ytpaakpbbahbhcaa.GlMarkIntSS.C (t_23a) (1) At_23a ct_23a w.heap.size Bt_23a _   Ot_23a (Lib.hid (Go.Proofs.Ytpaakpbbahbhcaa.GoN.nest_max Ot_23a.out))   qt_67).mono ?_
              rintro e_t_67 wt_67 ⟨rfl, ot_67, nt_67, gt_67⟩
              have Pt_67 := Lib.hid ot_67
              have Gt_67 := Lib.hid gt_67
              replace nt_67 := Lib.hid nt_67
              clear ot_67 gt_67
              have HBwt_67 := Lib.hid (Go.Proofs.Ytpaakpbbahbhcaa.GoN.below_nest HBwt_55.out Gt_67.out HBwt_55.out.size (Go.Proofs.Ytpaakpbbahbhcaa.GoN.nest_lt Ot_23a.out))
              replace Ot_10 := Lib.hid (Go.Proofs.Ytpaakpbbahbhcaa.GoV.nest_otherN Ot_10.out Gt_67.out (Go.Proofs.Ytpaakpbbahbhcaa.GoN.nest_flip Dt_23a_t_10.out))
              replace Ot_12a := Lib.hid (Go.Proofs.Ytpaakpbbahbhcaa.GoN.nest_otherN Ot_12a.out Gt_67.out (Go.Proofs.Ytpaakpbbahbhcaa.GoN.nest_flip Dt_23a_t_12a.out))
              replace Pt_48 := Lib.hid (Go.Proofs.Ytpaakpbbahbhcaa.GoV.nest_otherN Pt_48.out Gt_67.out (Go.Proofs.Ytpaakpbbahbhcaa.GoN.nest_flip Dt_23a_t_19.out))
              replace Ot_41 := Lib.hid (Go.Proofs.Ytpaakpbbahbhcaa.GoV.nest_otherN Ot_41.out Gt_67.out Dt_41_t_23a.out)
              clear Ot_23a Gt_67
              replace H := bind_hid H
              obtain ⟨t_72, qt_72, H⟩ := H
              go_wp2_with fail
              have hc_ := nt_67.out
              have hv_ : (Value.slice At_23a t_23a.length ct_23a : Value) = Value.slice At_23a lt_67.length ct_23a := by rw [hc_]
              try rw [hv_]
              clear hc_ hv_
              go_wp2_with fail
              go_at_call 36
              refine (Go.Proofs.Ytpaakpbbahbhcaa.GlHeldIntSS.C (lt_67) (1) At_23a ct_23a _   (Lib.hid (Go.Proofs.Ytpaakpbbahbhcaa.GoN.nest_read Pt_67.out)) (Lib.hid (Go.Proofs.Ytpaakpbbahbhcaa.GoN.nest_max Pt_67.out)) qt_72).mono ?_
              rintro e_t_72 wt_72 ⟨rfl, bt_72⟩
              have HBwt_72 := Lib.hid (Below.step HBwt_67.out bt_72)
              replace Ot_10 := Lib.hid (Go.Proofs.Ytpaakpbbahbhcaa.GoV.nest_below Ot_10.out bt_72)
              replace Ot_12a := Lib.hid (Go.Proofs.Ytpaakpbbahbhcaa.GoN.nest_below Ot_12a.out bt_72)
              replace Pt_48 := Lib.hid (Go.Proofs.Ytpaakpbbahbhcaa.GoV.nest_below Pt_48.out bt_72)
              replace Pt_67 := Lib.hid (Go.Proofs.Ytpaakpbbahbhcaa.GoN.nest_below Pt_67.out bt_72)
              replace Ot_41 := Lib.hid (Go.Proofs.Ytpaakpbbahbhcaa.GoV.nest_below Ot_41.out bt_72)
              clear bt_72
              replace H := let_hid H
              obtain ⟨t_75, ht_75, H⟩ := H
              cases t_75 with
              | false =>
                replace H := ite_f H
                replace H := let_hid H
                obtain ⟨t_79, ht_79, H⟩ := H
                cases t_79 with
                | false =>
                  replace H := ite_f H
                  replace H := bind_hid H
                  obtain ⟨t_82, qt_82, H⟩ := H
                  go_wp2_with fail
                  go_at_call 31
                  refine (Go.Proofs.Ytpaakpbbahbhcaa.GlToSightingS.C (aList) A0 c0 _   (Lib.hid (Go.Proofs.Ytpaakpbbahbhcaa.GoV.read_below M0.out HBwt_72.out)) N0 qt_82).mono ?_
                  rintro e_t_82 wt_82 ⟨At_82, ct_82, rfl, ⟨Bt_82, ot_82⟩, bt_82⟩
                  have Dt_82_t_10 := Lib.hid (Go.Proofs.Ytpaakpbbahbhcaa.GoV.lts_apart (Go.Proofs.Ytpaakpbbahbhcaa.GoV.nest_lt ot_82) (Go.Proofs.Ytpaakpbbahbhcaa.GoV.nest_lt Ot_10.out))
                  have Dt_82_t_12a := Lib.hid (Go.Proofs.Ytpaakpbbahbhcaa.GoV.lts_apart (Go.Proofs.Ytpaakpbbahbhcaa.GoV.nest_lt ot_82) (Go.Proofs.Ytpaakpbbahbhcaa.GoN.nest_lt Ot_12a.out))
                  have Dt_82_t_19 := Lib.hid (Go.Proofs.Ytpaakpbbahbhcaa.GoV.lts_apart (Go.Proofs.Ytpaakpbbahbhcaa.GoV.nest_lt ot_82) (Go.Proofs.Ytpaakpbbahbhcaa.GoV.nest_lt Pt_48.out))
                  have Dt_82_t_23a := Lib.hid (Go.Proofs.Ytpaakpbbahbhcaa.GoV.lts_apart (Go.Proofs.Ytpaakpbbahbhcaa.GoV.nest_lt ot_82) (Go.Proofs.Ytpaakpbbahbhcaa.GoN.nest_lt Pt_67.out))
                  have Dt_82_t_41 := Lib.hid (Go.Proofs.Ytpaakpbbahbhcaa.GoV.lts_apart (Go.Proofs.Ytpaakpbbahbhcaa.GoV.nest_lt ot_82) (Go.Proofs.Ytpaakpbbahbhcaa.GoV.nest_lt Ot_41.out))
                  have Ot_82 := Lib.hid (Go.Proofs.Ytpaakpbbahbhcaa.GoV.nest_lower ot_82 HBwt_72.out.size)
                  clear ot_82
                  have HBwt_82 := Lib.hid (Below.step HBwt_72.out bt_82)
                  replace Ot_10 := Lib.hid (Go.Proofs.Ytpaakpbbahbhcaa.GoV.nest_below Ot_10.out bt_82)
                  replace Ot_12a := Lib.hid (Go.Proofs.Ytpaakpbbahbhcaa.GoN.nest_below Ot_12a.out bt_82)
                  replace Pt_48 := Lib.hid (Go.Proofs.Ytpaakpbbahbhcaa.GoV.nest_below Pt_48.out bt_82)
                  replace Pt_67 := Lib.hid (Go.Proofs.Ytpaakpbbahbhcaa.GoN.nest_below Pt_67.out bt_82)
                  replace Ot_41 := Lib.hid (Go.Proofs.Ytpaakpbbahbhcaa.GoV.nest_below Ot_41.out bt_82)
                  clear bt_82
                  replace H := bind2_hid H
                  obtain ⟨t_84a, t_84b, qt_84, H⟩ := H
                  go_wp2_with fail
                  go_at_call 20
                  refine (Go.Proofs.Ytpaakpbbahbhcaa.GiCoversSeen.C (t_82) (aLimit) At_82 ct_82 _   (Lib.hid (Go.Proofs.Ytpaakpbbahbhcaa.GoV.nest_read Ot_82.out)) (Lib.hid (Go.Proofs.Ytpaakpbbahbhcaa.GoV.nest_max Ot_82.out)) (Lib.hid (Go.Proofs.Ytpaakpbbahbhcaa.GoV.nest_room Ot_82.out)) qt_84).mono ?_
                  rintro e_t_84 wt_84 ⟨At_84a, ct_84a, rfl, ⟨Bt_84a, ot_84a⟩, bt_84⟩
                  have Dt_84a_t_10 := Lib.hid (Go.Proofs.Ytpaakpbbahbhcaa.GoV.lts_apart (Go.Proofs.Ytpaakpbbahbhcaa.GoN.nest_lt ot_84a) (Go.Proofs.Ytpaakpbbahbhcaa.GoV.nest_lt Ot_10.out))
                  have Dt_84a_t_12a := Lib.hid (Go.Proofs.Ytpaakpbbahbhcaa.GoN.nest_callnest ot_84a Ot_12a.out)
                  have Dt_84a_t_19 := Lib.hid (Go.Proofs.Ytpaakpbbahbhcaa.GoV.lts_apart (Go.Proofs.Ytpaakpbbahbhcaa.GoN.nest_lt ot_84a) (Go.Proofs.Ytpaakpbbahbhcaa.GoV.nest_lt Pt_48.out))
                  have Dt_84a_t_23a := Lib.hid (Go.Proofs.Ytpaakpbbahbhcaa.GoN.nest_callnest ot_84a Pt_67.out)
                  have Dt_84a_t_41 := Lib.hid (Go.Proofs.Ytpaakpbbahbhcaa.GoV.lts_apart (Go.Proofs.Ytpaakpbbahbhcaa.GoN.nest_lt ot_84a) (Go.Proofs.Ytpaakpbbahbhcaa.GoV.nest_lt Ot_41.out))
                  have Dt_84a_t_82 := Lib.hid (Go.Proofs.Ytpaakpbbahbhcaa.GoV.lts_apart (Go.Proofs.Ytpaakpbbahbhcaa.GoN.nest_lt ot_84a) (Go.Proofs.Ytpaakpbbahbhcaa.GoV.nest_lt Ot_82.out))
                  have Ot_84a := Lib.hid (Go.Proofs.Ytpaakpbbahbhcaa.GoN.nest_lower ot_84a HBwt_82.out.size)
                  clear ot_84a
                  have HBwt_84 := Lib.hid (Below.step HBwt_82.out bt_84)
                  replace Ot_10 := Lib.hid (Go.Proofs.Ytpaakpbbahbhcaa.GoV.nest_below Ot_10.out bt_84)
                  replace Ot_12a := Lib.hid (Go.Proofs.Ytpaakpbbahbhcaa.GoN.nest_below Ot_12a.out bt_84)
                  replace Pt_48 := Lib.hid (Go.Proofs.Ytpaakpbbahbhcaa.GoV.nest_below Pt_48.out bt_84)
                  replace Pt_67 := Lib.hid (Go.Proofs.Ytpaakpbbahbhcaa.GoN.nest_below Pt_67.out bt_84)
                  replace Ot_41 := Lib.hid (Go.Proofs.Ytpaakpbbahbhcaa.GoV.nest_below Ot_41.out bt_84)
                  replace Ot_82 := Lib.hid (Go.Proofs.Ytpaakpbbahbhcaa.GoV.nest_below Ot_82.out bt_84)
                  clear bt_84
                  replace H := bind_hid H
                  obtain ⟨t_92, qt_92, H⟩ := H
                  go_wp2_with fail
                  go_at_call 33
                  refine (Go.Proofs.Ytpaakpbbahbhcaa.GlEqIntSS.C (t_84a) (t_12a) At_84a ct_84a At_12a ct_12a _   (Lib.hid (Go.Proofs.Ytpaakpbbahbhcaa.GoN.nest_read Ot_84a.out)) (Lib.hid (Go.Proofs.Ytpaakpbbahbhcaa.GoN.nest_max Ot_84a.out)) (Lib.hid (Go.Proofs.Ytpaakpbbahbhcaa.GoN.nest_read Ot_12a.out)) (Lib.hid (Go.Proofs.Ytpaakpbbahbhcaa.GoN.nest_max Ot_12a.out)) qt_92).mono ?_
                  rintro e_t_92 wt_92 ⟨rfl, bt_92⟩
                  have HBwt_92 := Lib.hid (Below.step HBwt_84.out bt_92)
                  replace Ot_10 := Lib.hid (Go.Proofs.Ytpaakpbbahbhcaa.GoV.nest_below Ot_10.out bt_92)
                  replace Ot_12a := Lib.hid (Go.Proofs.Ytpaakpbbahbhcaa.GoN.nest_below Ot_12a.out bt_92)
                  replace Pt_48 := Lib.hid (Go.Proofs.Ytpaakpbbahbhcaa.GoV.nest_below Pt_48.out bt_92)
                  replace Pt_67 := Lib.hid (Go.Proofs.Ytpaakpbbahbhcaa.GoN.nest_below Pt_67.out bt_92)
                  replace Ot_41 := Lib.hid (Go.Proofs.Ytpaakpbbahbhcaa.GoV.nest_below Ot_41.out bt_92)
                  replace Ot_82 := Lib.hid (Go.Proofs.Ytpaakpbbahbhcaa.GoV.nest_below Ot_82.out bt_92)
                  replace Ot_84a := Lib.hid (Go.Proofs.Ytpaakpbbahbhcaa.GoN.nest_below Ot_84a.out bt_92)
                  clear bt_92
                  cases t_92 with
                  | false =>
                    replace H := let_hid H
                    obtain ⟨t_93, ht_93, H⟩ := H
                    obtain rfl : t_93 = true := ht_93.symm
                    replace H := join_hid H
                    replace H := ite_t H
                    replace H := app_hid H
                    replace H := ite_t H
                    obtain rfl := ret_hid H
                    go_wp2_with fail
                    go_ret
                    exact ⟨rfl, HBwt_92.out⟩
                  | true =>
                    replace H := let_hid H
                    obtain ⟨t_93, ht_93, H⟩ := H
                    obtain rfl : t_93 = false := ht_93.symm
                    replace H := join_hid H
                    replace H := ite_f H
                    replace H := let_hid H
                    obtain ⟨t_97, ht_97, H⟩ := H
                    replace H := app_hid H
                    cases t_97 with
                    | false =>
                      replace H := ite_f H
                      replace H := bind_hid H
                      obtain ⟨t_103, qt_103, H⟩ := H
                      go_wp2_with fail
                      go_at_call 36
                      refine (Go.Proofs.Ytpaakpbbahbhcaa.GlHeldIntSS.C (lt_67) (1) At_23a ct_23a _   (Lib.hid (Go.Proofs.Ytpaakpbbahbhcaa.GoN.nest_read Pt_67.out)) (Lib.hid (Go.Proofs.Ytpaakpbbahbhcaa.GoN.nest_max Pt_67.out)) qt_103).mono ?_
                      rintro e_t_103 wt_103 ⟨rfl, bt_103⟩
                      have HBwt_103 := Lib.hid (Below.step HBwt_92.out bt_103)
                      replace Ot_10 := Lib.hid (Go.Proofs.Ytpaakpbbahbhcaa.GoV.nest_below Ot_10.out bt_103)
                      replace Ot_12a := Lib.hid (Go.Proofs.Ytpaakpbbahbhcaa.GoN.nest_below Ot_12a.out bt_103)
                      replace Pt_48 := Lib.hid (Go.Proofs.Ytpaakpbbahbhcaa.GoV.nest_below Pt_48.out bt_103)
                      replace Pt_67 := Lib.hid (Go.Proofs.Ytpaakpbbahbhcaa.GoN.nest_below Pt_67.out bt_103)
                      replace Ot_41 := Lib.hid (Go.Proofs.Ytpaakpbbahbhcaa.GoV.nest_below Ot_41.out bt_103)
                      replace Ot_82 := Lib.hid (Go.Proofs.Ytpaakpbbahbhcaa.GoV.nest_below Ot_82.out bt_103)
                      replace Ot_84a := Lib.hid (Go.Proofs.Ytpaakpbbahbhcaa.GoN.nest_below Ot_84a.out bt_103)
                      clear bt_103
                      replace H := let_hid H
                      obtain ⟨t_106, ht_106, H⟩ := H
                      cases t_106 with
                      | false =>
                        replace H := ite_f H
                        replace H := let_hid H
                        obtain ⟨t_110, ht_110, H⟩ := H
                        cases t_110 with
                        | false =>
                          replace H := ite_f H
                          obtain rfl := ret_hid H
                          go_wp2_with fail
                          go_ret
                          exact ⟨rfl, HBwt_103.out⟩
                        | true =>
                          replace H := ite_t H
                          obtain rfl := ret_hid H
                          go_wp2_with fail
                          go_ret
                          exact ⟨rfl, HBwt_103.out⟩
                      | true =>
                        replace H := ite_t H
                        obtain rfl := ret_hid H
                        go_wp2_with fail
                        go_ret
                        exact ⟨rfl, HBwt_103.out⟩
                    | true =>
                      replace H := ite_t H
                      obtain rfl := ret_hid H
                      go_wp2_with fail
                      go_ret
                      exact ⟨rfl, HBwt_92.out⟩
                | true =>
                  replace H := ite_t H
                  obtain rfl := ret_hid H
                  go_wp2_with fail
                  go_ret
                  exact ⟨rfl, HBwt_72.out⟩
              | true =>
                replace H := ite_t H
                obtain rfl := ret_hid H
                go_wp2_with fail
                go_ret
                exact ⟨rfl, HBwt_72.out⟩
          | true =>
            replace H := ite_t H
            replace H := app_hid H
            replace H := join_hid H
            replace H := ite_t H
            replace H := app_hid H
            replace H := ite_t H
            obtain rfl := ret_hid H
            go_wp2_with fail
            go_ret
            exact ⟨rfl, HBwt_48.out⟩
      | true =>
        replace H := ite_t H
        obtain rfl := ret_hid H
        go_wp2_with fail
        go_ret
        exact ⟨rfl, HBwt_31.out⟩
  | true =>
    replace H := ite_t H
    obtain rfl := ret_hid H
    go_wp2_with fail
    go_ret
    exact ⟨rfl, HBwt_4.out⟩
end Go.Proofs.Ytpaakpbbahbhcaa.GlFnExactCoversSeen

/- Chapter 13: censuses: the plain functions of the program and of the reference agree, and the laws answer true. (QL13Covers) No condition but those of each theorem. -/
namespace Go.Proofs.Ytpaakpbbahbhcaa.QL13Covers
set_option linter.unusedVariables false
set_option linter.unusedSimpArgs false
open Go.RowKit
open Go.Proofs.Ytpaakpbbahbhcaa.GoP Go.Proofs.Ytpaakpbbahbhcaa.PlainStamp Go.Proofs.Ytpaakpbbahbhcaa.QBase Go.Proofs.Ytpaakpbbahbhcaa.Q13Covers Go.Proofs.Ytpaakpbbahbhcaa.Q13One Go.Proofs.Ytpaakpbbahbhcaa.QF13 Go.Proofs.Ytpaakpbbahbhcaa.QLoop Go.Proofs.Ytpaakpbbahbhcaa.PSighting Go.Proofs.Ytpaakpbbahbhcaa.QHSS Go.Proofs.Ytpaakpbbahbhcaa.QHVSightingE Go.Proofs.Ytpaakpbbahbhcaa.QHVSighting

theorem law_coversSeen (fuel : Nat) (hfu : 2000 ≤ fuel) (l : List Sighting) (L : Int) (hF : ∀ s ∈ l, Go.Proofs.Ytpaakpbbahbhcaa.OVSighting.Fits s) (hl : l.length ≤ 9223372036854775807) : GlFnExactCoversSeen.P fuel l L = some true := by
  have hf : ∀ s ∈ l, sz13 s := fun s hs => fits_sz (hF s hs)
  obtain ⟨v, hv, hn⟩ := szS l hf hl
  simp only [GlFnExactCoversSeen.P, hv, Option.bind_some, letK, iteK_if]
  by_cases hb : v < 0
  · rw [if_pos (by simpa using hb)]
  · rw [if_neg (by simpa using hb)]
    have hsm := hn (by omega)
    have hs := coversRes_small l L
    obtain ⟨⟨p, q⟩, hr⟩ : ∃ x, x = coversRes l L := ⟨_, rfl⟩
    rw [← hr] at hs
    obtain ⟨M, hM, hH⟩ := markSS p hs.1 hs.2
    obtain ⟨v', l', hm, hv2⟩ := markS l hsm
    have hv3 : ¬ v' < 0 := by omega
    have e1 : ¬ ((Go.Proofs.Ytpaakpbbahbhcaa.QHSS.st p p.length : Int) < 0) := by omega
    simp [toS l hsm, covers_spec l L hf hl fuel hfu, covers_impl, ← hr, eqSS, eqS, hm, hv3, hM, hH, e1, bind2, joinK, appK, iteK_if]
end Go.Proofs.Ytpaakpbbahbhcaa.QL13Covers

