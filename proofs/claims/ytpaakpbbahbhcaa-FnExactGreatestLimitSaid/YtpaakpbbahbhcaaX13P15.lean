/- Texts on which the proofs of several laws stand, one behind the other (15 of 20). No condition of their own. -/
import Derived.Test.YtpaakpbbahbhcaaChecked
import Derived.Test.YtpaakpbbahbhcaaX13P1
import Derived.Test.YtpaakpbbahbhcaaX13P2
import Derived.Test.YtpaakpbbahbhcaaX13P5
import Derived.Test.YtpaakpbbahbhcaaX13P6
import Derived.WalkKit
import Derived.WalkSpells
import Derived.WalkLawsBesides
import Derived.BigQuiet
import Derived.OwnWalk
import Derived.Deep.LoopGhost
import Derived.Deep.QuietTactic
import Derived.IntWalk
import Derived.Lib.QuietBelow
import Derived.Test.YtpaakpbbahbhcaaX13P7
import Derived.Test.YtpaakpbbahbhcaaX13P3
import Derived.Test.YtpaakpbbahbhcaaX13P9
import Derived.Test.YtpaakpbbahbhcaaX13P8
import Derived.Test.YtpaakpbbahbhcaaX13P4
/- loop.example/g01062/spec.GreatestLimit as a plain function, and the contract of the program's: where the plain one has an answer, the program has it. Conditions: slices read as lists. -/
namespace Go.Proofs.Ytpaakpbbahbhcaa.GsGreatestLimit
set_option linter.unusedVariables false
set_option linter.unusedSimpArgs false
open Go.RowKit
open Go.Proofs.Ytpaakpbbahbhcaa.Rowed Go.Proofs.Ytpaakpbbahbhcaa.Turn Go.Proofs.Ytpaakpbbahbhcaa.Aid Go.Proofs.Ytpaakpbbahbhcaa.GoP Go.Proofs.Ytpaakpbbahbhcaa.GoM

def l0 (list : (List Go.Proofs.Ytpaakpbbahbhcaa.PSighting.Sighting)) (fuel : Nat) (t_4 : Int) (t_7 : Int) (s : Int) (nx0 bk0 : Int → Option (Int × Bool)) : Option (Int × Bool) :=
  letK s fun limit_10l0 =>
  letK (decide ((-30) ≤ limit_10l0)) fun (t_30 : Bool) =>
  iteK t_30
  (Option.bind (Go.Proofs.Ytpaakpbbahbhcaa.GsL13Cover.P fuel list limit_10l0 t_4) fun (t_34 : (List Int)) =>
  Option.bind (Go.Proofs.Ytpaakpbbahbhcaa.GsL1Has.P t_34 t_7) fun (t_36 : Bool) =>
  iteK t_36
  (some (limit_10l0, true))
  (letK (IntKind.i64.wrap (limit_10l0 - 1)) fun (t_41 : Int) =>
  appK nx0 (t_41)))
  (appK bk0 (limit_10l0))

def e0  (s : Int) : Option (Int × Bool) :=
  letK s fun limit_10l0 =>
  some (0, false)

def P (fuel : Nat) (list : (List Go.Proofs.Ytpaakpbbahbhcaa.PSighting.Sighting)) (a : Int) (b : Int) : Option (Int × Bool) :=
  Option.bind (Go.Proofs.Ytpaakpbbahbhcaa.GsL13Find.P list a) fun (t_4 : Int) =>
  Option.bind (Go.Proofs.Ytpaakpbbahbhcaa.GsL13Find.P list b) fun (t_7 : Int) =>
  Option.bind (Go.Proofs.Ytpaakpbbahbhcaa.GsL13Good.P list) fun (t_11 : Bool) =>
  letK (!t_11) fun (t_12 : Bool) =>
  joinK (fun (t_16 : Bool) =>
  joinK (fun (t_20 : Bool) =>
  joinK (fun (t_25 : Bool) =>
  iteK t_25
  (some (0, false))
  (loopK (l0 list fuel t_4 t_7) fuel (16) (e0 ))) fun jt_25 => iteK t_20 (appK jt_25 true) (letK (t_4 == t_7) fun (t_24 : Bool) =>
  appK jt_25 t_24)) fun jt_20 => iteK t_16 (appK jt_20 true) (letK (decide (t_7 < 0)) fun (t_19 : Bool) =>
  appK jt_20 t_19)) fun jt_16 => iteK t_12 (appK jt_16 true) (letK (decide (t_4 < 0)) fun (t_15 : Bool) =>
  appK jt_16 t_15)

set_option maxRecDepth 100000 in
set_option maxHeartbeats 2000000 in
theorem C (fuel : Nat) (list : (List Go.Proofs.Ytpaakpbbahbhcaa.PSighting.Sighting)) (a : Int) (b : Int) (A0 : Option Addr) (c0 : Nat)  (w : World) (M0 : Hid (Go.Proofs.Ytpaakpbbahbhcaa.GoV.ReadNest w Go.Proofs.Ytpaakpbbahbhcaa.GoVSighting.lay A0 list)) (N0 : Hid (list.length ≤ 9223372036854775807))  {r0 : Int} {r1 : Bool} (H : Hid (P fuel list a b = some (r0, r1))) :
    Calls Try.prog 17 #[.slice A0 list.length c0, .int .i64 a, .int .i64 b] w (Gives (.tuple #[.int .i64 r0, .bool r1]) w) := by
  have HB := Lib.hid (Below.refl w.heap.size w)
  unfold P at H
  have N0o := N0.out
  go_enter Try.func17, Try.ntmps17
  replace H := bind_hid H
  obtain ⟨t_4, qt_4, H⟩ := H
  go_wp2_with fail
  go_at_call 55
  refine (Go.Proofs.Ytpaakpbbahbhcaa.GsL13Find.C (list) (a) A0 c0 _   (Lib.hid (Go.Proofs.Ytpaakpbbahbhcaa.GoV.read_below M0.out HB.out)) N0 qt_4).mono ?_
  rintro e_t_4 wt_4 ⟨rfl, bt_4⟩
  have HBwt_4 := Lib.hid (Below.step HB.out bt_4)
  clear bt_4
  replace H := bind_hid H
  obtain ⟨t_7, qt_7, H⟩ := H
  go_wp2_with fail
  go_at_call 55
  refine (Go.Proofs.Ytpaakpbbahbhcaa.GsL13Find.C (list) (b) A0 c0 _   (Lib.hid (Go.Proofs.Ytpaakpbbahbhcaa.GoV.read_below M0.out HBwt_4.out)) N0 qt_7).mono ?_
  rintro e_t_7 wt_7 ⟨rfl, bt_7⟩
  have HBwt_7 := Lib.hid (Below.step HBwt_4.out bt_7)
  clear bt_7
  replace H := bind_hid H
  obtain ⟨t_11, qt_11, H⟩ := H
  go_wp2_with fail
  go_at_call 56
  refine (Go.Proofs.Ytpaakpbbahbhcaa.GsL13Good.C (list) A0 c0 _   (Lib.hid (Go.Proofs.Ytpaakpbbahbhcaa.GoV.read_below M0.out HBwt_7.out)) N0 qt_11).mono ?_
  rintro e_t_11 wt_11 ⟨rfl, bt_11⟩
  have HBwt_11 := Lib.hid (Below.step HBwt_7.out bt_11)
  clear bt_11
  cases t_11 with
  | false =>
    replace H := let_hid H
    obtain ⟨t_12, ht_12, H⟩ := H
    obtain rfl : t_12 = true := ht_12.symm
    replace H := join_hid H
    replace H := ite_t H
    replace H := app_hid H
    replace H := join_hid H
    replace H := ite_t H
    replace H := app_hid H
    replace H := join_hid H
    replace H := ite_t H
    replace H := app_hid H
    replace H := ite_t H
    cases ret_hid H
    go_wp2_with fail
    go_ret2
    exact ⟨rfl, HBwt_11.out⟩
  | true =>
    replace H := let_hid H
    obtain ⟨t_12, ht_12, H⟩ := H
    obtain rfl : t_12 = false := ht_12.symm
    replace H := join_hid H
    replace H := ite_f H
    replace H := let_hid H
    obtain ⟨t_15, ht_15, H⟩ := H
    replace H := app_hid H
    replace H := join_hid H
    cases t_15 with
    | false =>
      replace H := ite_f H
      replace H := let_hid H
      obtain ⟨t_19, ht_19, H⟩ := H
      replace H := app_hid H
      replace H := join_hid H
      cases t_19 with
      | false =>
        replace H := ite_f H
        replace H := let_hid H
        obtain ⟨t_24, ht_24, H⟩ := H
        replace H := app_hid H
        cases t_24 with
        | false =>
          replace H := ite_f H
          go_wp2_with fail
          go_loopg [10] (fuel) (fun m_ v10_ wr => ∃ (limit_10l0 : Int), v10_ = .int .i64 limit_10l0 ∧ Hid (loopK (l0 list fuel t_4 t_7) m_ (limit_10l0) (e0 ) = some (r0, r1)) ∧ Hid (Below w.heap.size w wr))
          case atStart => exact ⟨_, rfl, H, HBwt_11⟩
          case round =>
            obtain ⟨limit_10l0, rfl, H, HBwr0⟩ := hrel
            rename World => wr0
            cases gk with
            | zero => exact (loop_zero H).elim
            | succ m0 =>
              replace H := loop_succ H
              unfold l0 at H
              replace H := let_hid H
              obtain ⟨_, rfl, H⟩ := H
              replace H := let_hid H
              obtain ⟨t_30, ht_30, H⟩ := H
              cases t_30 with
              | false =>
                replace H := ite_f H
                replace H := app_hid H
                unfold e0 at H
                replace H := let_hid H
                obtain ⟨_, rfl, H⟩ := H
                cases ret_hid H
                go_wp2_with fail
                go_ret2
                exact ⟨rfl, HBwr0.out⟩
              | true =>
                replace H := ite_t H
                replace H := bind_hid H
                obtain ⟨t_34, qt_34, H⟩ := H
                go_wp2_with fail
                go_at_call 58
                refine (Go.Proofs.Ytpaakpbbahbhcaa.GsL13Cover.C fuel (list) (limit_10l0) (t_4) A0 c0 _   (Lib.hid (Go.Proofs.Ytpaakpbbahbhcaa.GoV.read_below M0.out HBwr0.out)) N0 qt_34).mono ?_
                rintro e_t_34 wt_34 ⟨At_34, ct_34, rfl, ot_34, bt_34⟩
                have Ot_34 := Lib.hid (own_lower ot_34 HBwr0.out.size)
                clear ot_34
                have HBwt_34 := Lib.hid (Below.step HBwr0.out bt_34)
                clear bt_34
                replace H := bind_hid H
                obtain ⟨t_36, qt_36, H⟩ := H
                go_wp2_with fail
                go_at_call 57
                refine (Go.Proofs.Ytpaakpbbahbhcaa.GsL1Has.C (t_34) (t_7) At_34 ct_34 _   (Lib.hid (own_cells Ot_34.out)) (Lib.hid (own_max Ot_34.out)) qt_36).mono ?_
                rintro e_t_36 wt_36 ⟨rfl, bt_36⟩
                have HBwt_36 := Lib.hid (Below.step HBwt_34.out bt_36)
                replace Ot_34 := Lib.hid (own_below Ot_34.out bt_36)
                clear bt_36
                cases t_36 with
                | false =>
                  replace H := ite_f H
                  replace H := let_hid H
                  obtain ⟨t_41, ht_41, H⟩ := H
                  replace H := app_hid H
                  go_wp2_with fail
                  go_roundg m0
                  case measure => omega
                  case rel => exact ⟨_, rfl, H, HBwt_36⟩
                | true =>
                  replace H := ite_t H
                  cases ret_hid H
                  go_wp2_with fail
                  go_ret2
                  exact ⟨rfl, HBwt_36.out⟩
        | true =>
          replace H := ite_t H
          cases ret_hid H
          go_wp2_with fail
          go_ret2
          exact ⟨rfl, HBwt_11.out⟩
      | true =>
        replace H := ite_t H
        replace H := app_hid H
        replace H := ite_t H
        cases ret_hid H
        go_wp2_with fail
        go_ret2
        exact ⟨rfl, HBwt_11.out⟩
    | true =>
      replace H := ite_t H
      replace H := app_hid H
      replace H := join_hid H
      replace H := ite_t H
      replace H := app_hid H
      replace H := ite_t H
      cases ret_hid H
      go_wp2_with fail
      go_ret2
      exact ⟨rfl, HBwt_11.out⟩
end Go.Proofs.Ytpaakpbbahbhcaa.GsGreatestLimit

/- loop.example/g01062/impl.GreatestLimit as a plain function, and the contract of the program's: where the plain one has an answer, the program has it. Conditions: slices read as lists. -/
namespace Go.Proofs.Ytpaakpbbahbhcaa.GiGreatestLimit
set_option linter.unusedVariables false
set_option linter.unusedSimpArgs false
open Go.RowKit
open Go.Proofs.Ytpaakpbbahbhcaa.Rowed Go.Proofs.Ytpaakpbbahbhcaa.Turn Go.Proofs.Ytpaakpbbahbhcaa.Aid Go.Proofs.Ytpaakpbbahbhcaa.GoP Go.Proofs.Ytpaakpbbahbhcaa.GoM

def P (list : (List Go.Proofs.Ytpaakpbbahbhcaa.PSighting.Sighting)) (a : Int) (b : Int) : Option (Int × Bool) :=
  Option.bind (Go.Proofs.Ytpaakpbbahbhcaa.GiIndexOfSighting.P list a) fun (t_4 : Int) =>
  Option.bind (Go.Proofs.Ytpaakpbbahbhcaa.GiIndexOfSighting.P list b) fun (t_7 : Int) =>
  letK (decide (t_4 < 0)) fun (t_11 : Bool) =>
  joinK (fun (t_15 : Bool) =>
  joinK (fun (t_20 : Bool) =>
  iteK t_20
  (some (0, false))
  (Option.bind (Go.Proofs.Ytpaakpbbahbhcaa.GiBondsOf.P list) fun (t_24 : (List Int)) =>
  guardK ((0 : Int) ≤ t_4 ∧ (t_4 : Int) < 10) <|
  guardK (t_24.length = 100) <|
  letK (Go.Proofs.Ytpaakpbbahbhcaa.GoA.nth t_24 ((Int.toNat t_4) * 10 + 0)) fun (t_26_0 : Int) =>
  letK (Go.Proofs.Ytpaakpbbahbhcaa.GoA.nth t_24 ((Int.toNat t_4) * 10 + 1)) fun (t_26_1 : Int) =>
  letK (Go.Proofs.Ytpaakpbbahbhcaa.GoA.nth t_24 ((Int.toNat t_4) * 10 + 2)) fun (t_26_2 : Int) =>
  letK (Go.Proofs.Ytpaakpbbahbhcaa.GoA.nth t_24 ((Int.toNat t_4) * 10 + 3)) fun (t_26_3 : Int) =>
  letK (Go.Proofs.Ytpaakpbbahbhcaa.GoA.nth t_24 ((Int.toNat t_4) * 10 + 4)) fun (t_26_4 : Int) =>
  letK (Go.Proofs.Ytpaakpbbahbhcaa.GoA.nth t_24 ((Int.toNat t_4) * 10 + 5)) fun (t_26_5 : Int) =>
  letK (Go.Proofs.Ytpaakpbbahbhcaa.GoA.nth t_24 ((Int.toNat t_4) * 10 + 6)) fun (t_26_6 : Int) =>
  letK (Go.Proofs.Ytpaakpbbahbhcaa.GoA.nth t_24 ((Int.toNat t_4) * 10 + 7)) fun (t_26_7 : Int) =>
  letK (Go.Proofs.Ytpaakpbbahbhcaa.GoA.nth t_24 ((Int.toNat t_4) * 10 + 8)) fun (t_26_8 : Int) =>
  letK (Go.Proofs.Ytpaakpbbahbhcaa.GoA.nth t_24 ((Int.toNat t_4) * 10 + 9)) fun (t_26_9 : Int) =>
  Option.bind (idx [t_26_0, t_26_1, t_26_2, t_26_3, t_26_4, t_26_5, t_26_6, t_26_7, t_26_8, t_26_9] t_7) fun (yt_28 : Int) =>
  some (yt_28, true))) fun jt_20 => iteK t_15 (appK jt_20 true) (letK (t_4 == t_7) fun (t_19 : Bool) =>
  appK jt_20 t_19)) fun jt_15 => iteK t_11 (appK jt_15 true) (letK (decide (t_7 < 0)) fun (t_14 : Bool) =>
  appK jt_15 t_14)

set_option maxRecDepth 100000 in
set_option maxHeartbeats 2000000 in
theorem C (list : (List Go.Proofs.Ytpaakpbbahbhcaa.PSighting.Sighting)) (a : Int) (b : Int) (A0 : Option Addr) (c0 : Nat)  (w : World) (M0 : Hid (Go.Proofs.Ytpaakpbbahbhcaa.GoV.ReadNest w Go.Proofs.Ytpaakpbbahbhcaa.GoVSighting.lay A0 list)) (N0 : Hid (list.length ≤ 9223372036854775807))  {r0 : Int} {r1 : Bool} (H : Hid (P list a b = some (r0, r1))) :
    Calls Try.prog 16 #[.slice A0 list.length c0, .int .i64 a, .int .i64 b] w (Gives (.tuple #[.int .i64 r0, .bool r1]) w) := by
  have HB := Lib.hid (Below.refl w.heap.size w)
  unfold P at H
  have N0o := N0.out
  go_enter Try.func16, Try.ntmps16
  replace H := bind_hid H
  obtain ⟨t_4, qt_4, H⟩ := H
  go_wp2_with fail
  go_at_call 53
  refine (Go.Proofs.Ytpaakpbbahbhcaa.GiIndexOfSighting.C (list) (a) A0 c0 _   (Lib.hid (Go.Proofs.Ytpaakpbbahbhcaa.GoV.read_below M0.out HB.out)) N0 qt_4).mono ?_
  rintro e_t_4 wt_4 ⟨rfl, bt_4⟩
  have HBwt_4 := Lib.hid (Below.step HB.out bt_4)
  clear bt_4
  replace H := bind_hid H
  obtain ⟨t_7, qt_7, H⟩ := H
  go_wp2_with fail
  go_at_call 53
  refine (Go.Proofs.Ytpaakpbbahbhcaa.GiIndexOfSighting.C (list) (b) A0 c0 _   (Lib.hid (Go.Proofs.Ytpaakpbbahbhcaa.GoV.read_below M0.out HBwt_4.out)) N0 qt_7).mono ?_
  rintro e_t_7 wt_7 ⟨rfl, bt_7⟩
  have HBwt_7 := Lib.hid (Below.step HBwt_4.out bt_7)
  clear bt_7
  replace H := let_hid H
  obtain ⟨t_11, ht_11, H⟩ := H
  replace H := join_hid H
  cases t_11 with
  | false =>
    replace H := ite_f H
    replace H := let_hid H
    obtain ⟨t_14, ht_14, H⟩ := H
    replace H := app_hid H
    replace H := join_hid H
    cases t_14 with
    | false =>
      replace H := ite_f H
      replace H := let_hid H
      obtain ⟨t_19, ht_19, H⟩ := H
      replace H := app_hid H
      cases t_19 with
      | false =>
        replace H := ite_f H
        replace H := bind_hid H
        obtain ⟨t_24, qt_24, H⟩ := H
        go_wp2_with fail
        go_at_call 54
        refine (Go.Proofs.Ytpaakpbbahbhcaa.GiBondsOf.C (list) A0 c0 _   (Lib.hid (Go.Proofs.Ytpaakpbbahbhcaa.GoV.read_below M0.out HBwt_7.out)) N0 qt_24).mono ?_
        rintro e_t_24 wt_24 ⟨rfl, bt_24⟩
        have HBwt_24 := Lib.hid (Below.step HBwt_7.out bt_24)
        clear bt_24
        replace H := guard_hid H
        obtain ⟨hgt_26, H⟩ := H
        obtain ⟨Nt_26, eNt_26⟩ : ∃ N : Nat, t_4 = (N : Int) := ⟨(t_4).toNat, by omega⟩
        subst eNt_26
        have b0t_26 : (0 : Int) ≤ (Nt_26 : Int) := by omega
        have b1t_26 : (Nt_26 : Int) < ((10 : Nat) : Int) := by omega
        have b4t_26 : (Nt_26 : Int) < (10 : Int) := by omega
        have b2t_26 : ((Nt_26 : Int)).toNat = Nt_26 := by omega
        have b3t_26 : Nt_26 < 10 := by omega
        replace H := guard_hid H
        obtain ⟨hzt_26, H⟩ := H
        replace H := let_hid H
        obtain ⟨t_26_0, ht_26_0, H⟩ := H
        try simp only [Int.toNat_natCast] at ht_26_0
        replace ht_26_0 := Lib.hid ht_26_0
        replace H := let_hid H
        obtain ⟨t_26_1, ht_26_1, H⟩ := H
        try simp only [Int.toNat_natCast] at ht_26_1
        replace ht_26_1 := Lib.hid ht_26_1
        replace H := let_hid H
        obtain ⟨t_26_2, ht_26_2, H⟩ := H
        try simp only [Int.toNat_natCast] at ht_26_2
        replace ht_26_2 := Lib.hid ht_26_2
        replace H := let_hid H
        obtain ⟨t_26_3, ht_26_3, H⟩ := H
        try simp only [Int.toNat_natCast] at ht_26_3
        replace ht_26_3 := Lib.hid ht_26_3
        replace H := let_hid H
        obtain ⟨t_26_4, ht_26_4, H⟩ := H
        try simp only [Int.toNat_natCast] at ht_26_4
        replace ht_26_4 := Lib.hid ht_26_4
        replace H := let_hid H
        obtain ⟨t_26_5, ht_26_5, H⟩ := H
        try simp only [Int.toNat_natCast] at ht_26_5
        replace ht_26_5 := Lib.hid ht_26_5
        replace H := let_hid H
        obtain ⟨t_26_6, ht_26_6, H⟩ := H
        try simp only [Int.toNat_natCast] at ht_26_6
        replace ht_26_6 := Lib.hid ht_26_6
        replace H := let_hid H
        obtain ⟨t_26_7, ht_26_7, H⟩ := H
        try simp only [Int.toNat_natCast] at ht_26_7
        replace ht_26_7 := Lib.hid ht_26_7
        replace H := let_hid H
        obtain ⟨t_26_8, ht_26_8, H⟩ := H
        try simp only [Int.toNat_natCast] at ht_26_8
        replace ht_26_8 := Lib.hid ht_26_8
        replace H := let_hid H
        obtain ⟨t_26_9, ht_26_9, H⟩ := H
        try simp only [Int.toNat_natCast] at ht_26_9
        replace ht_26_9 := Lib.hid ht_26_9
        have it_26 : ∀ W_, (Instr.index 62 (.agg (Go.Proofs.Ytpaakpbbahbhcaa.HelpInt.iv t_24).toArray) (.int .i64 (Nt_26 : Int))).run Try.prog W_ = .ok (.agg #[.int .i64 t_26_0, .int .i64 t_26_1, .int .i64 t_26_2, .int .i64 t_26_3, .int .i64 t_26_4, .int .i64 t_26_5, .int .i64 t_26_6, .int .i64 t_26_7, .int .i64 t_26_8, .int .i64 t_26_9]) W_ := by
          intro W_
          rw [Go.Proofs.Ytpaakpbbahbhcaa.GoX.run_index_mat (m := 10) Try.underlying62 Try.underlying61 (by kernel_rfl) (by omega) hzt_26 W_]
          rw [← ht_26_0.out, ← ht_26_1.out, ← ht_26_2.out, ← ht_26_3.out, ← ht_26_4.out, ← ht_26_5.out, ← ht_26_6.out, ← ht_26_7.out, ← ht_26_8.out, ← ht_26_9.out]
          rfl
        replace H := idx_hid H
        obtain ⟨nt_28, yt_28, et_28, lt_28, gt_28, H⟩ := H
        subst et_28
        have nc_157 : ¬ (nt_28 < 0) := by have := of_decide_eq_false ht_14; omega
        have it_28 : ∀ w, (Instr.index 61 (.agg #[.int .i64 t_26_0, .int .i64 t_26_1, .int .i64 t_26_2, .int .i64 t_26_3, .int .i64 t_26_4, .int .i64 t_26_5, .int .i64 t_26_6, .int .i64 t_26_7, .int .i64 t_26_8, .int .i64 t_26_9]) (.int .i64 (nt_28 : Int))).run Try.prog w = .ok (.int .i64 yt_28) w := by
          intro w
          have hl := lt_28
          have hg := gt_28.out
          clear gt_28 H
          rcases nt_28 with _ | _ | _ | _ | _ | _ | _ | _ | _ | _ | _
          · obtain rfl := Option.some.inj hg; rfl
          · obtain rfl := Option.some.inj hg; rfl
          · obtain rfl := Option.some.inj hg; rfl
          · obtain rfl := Option.some.inj hg; rfl
          · obtain rfl := Option.some.inj hg; rfl
          · obtain rfl := Option.some.inj hg; rfl
          · obtain rfl := Option.some.inj hg; rfl
          · obtain rfl := Option.some.inj hg; rfl
          · obtain rfl := Option.some.inj hg; rfl
          · obtain rfl := Option.some.inj hg; rfl
          · simp at hl; omega
        cases ret_hid H
        go_wp2_with fail
        go_ret2
        exact ⟨rfl, HBwt_24.out⟩
      | true =>
        replace H := ite_t H
        cases ret_hid H
        go_wp2_with fail
        go_ret2
        exact ⟨rfl, HBwt_7.out⟩
    | true =>
      replace H := ite_t H
      replace H := app_hid H
      replace H := ite_t H
      cases ret_hid H
      go_wp2_with fail
      go_ret2
      exact ⟨rfl, HBwt_7.out⟩
  | true =>
    replace H := ite_t H
    replace H := app_hid H
    replace H := join_hid H
    replace H := ite_t H
    replace H := app_hid H
    replace H := ite_t H
    cases ret_hid H
    go_wp2_with fail
    go_ret2
    exact ⟨rfl, HBwt_7.out⟩
end Go.Proofs.Ytpaakpbbahbhcaa.GiGreatestLimit

/- loop.example/g01062/laws.FnExactGreatestLimit as a plain function, and the contract of the program's: where the plain one has an answer, the program has it. Conditions: slices read as lists. -/
namespace Go.Proofs.Ytpaakpbbahbhcaa.GlFnExactGreatestLimit
set_option linter.unusedVariables false
set_option linter.unusedSimpArgs false
open Go.RowKit
open Go.Proofs.Ytpaakpbbahbhcaa.Rowed Go.Proofs.Ytpaakpbbahbhcaa.Turn Go.Proofs.Ytpaakpbbahbhcaa.Aid Go.Proofs.Ytpaakpbbahbhcaa.GoP Go.Proofs.Ytpaakpbbahbhcaa.GoM

def P (fuel : Nat) (aList : (List Go.Proofs.Ytpaakpbbahbhcaa.PSighting.Sighting)) (aA : Int) (aB : Int) : Option (Bool) :=
  Option.bind (Go.Proofs.Ytpaakpbbahbhcaa.GlSzSightingS.P aList 1048576) fun (t_4 : Int) =>
  letK (decide (t_4 < 0)) fun (t_7 : Bool) =>
  iteK t_7
  (some true)
  (Option.bind (Go.Proofs.Ytpaakpbbahbhcaa.GlToSightingS.P aList) fun (t_10 : (List Go.Proofs.Ytpaakpbbahbhcaa.PSighting.Sighting)) =>
  bind2 (Go.Proofs.Ytpaakpbbahbhcaa.GsGreatestLimit.P fuel t_10 aA aB) fun (t_13a : Int) (t_13b : Bool) =>
  Option.bind (Go.Proofs.Ytpaakpbbahbhcaa.GlToSightingS.P aList) fun (t_20 : (List Go.Proofs.Ytpaakpbbahbhcaa.PSighting.Sighting)) =>
  bind2 (Go.Proofs.Ytpaakpbbahbhcaa.GiGreatestLimit.P t_20 aA aB) fun (t_25a : Int) (t_25b : Bool) =>
  letK (t_25a != t_13a) fun (t_33 : Bool) =>
  joinK (fun (t_38 : Bool) =>
  iteK t_38
  (some false)
  (Option.bind (Go.Proofs.Ytpaakpbbahbhcaa.GlToSightingS.P aList) fun (t_42 : (List Go.Proofs.Ytpaakpbbahbhcaa.PSighting.Sighting)) =>
  Option.bind (Go.Proofs.Ytpaakpbbahbhcaa.GlEqSightingS.P t_20 t_42) fun (t_43 : Bool) =>
  letK (!t_43) fun (t_44 : Bool) =>
  iteK t_44
  (some false)
  (some true))) fun jt_38 => iteK t_33 (appK jt_38 true) (letK (!(t_25b == t_13b)) fun (t_37 : Bool) =>
  appK jt_38 t_37))

set_option maxRecDepth 100000 in
set_option maxHeartbeats 2000000 in
theorem C (fuel : Nat) (aList : (List Go.Proofs.Ytpaakpbbahbhcaa.PSighting.Sighting)) (aA : Int) (aB : Int) (A0 : Option Addr) (c0 : Nat)  (w : World) (M0 : Hid (Go.Proofs.Ytpaakpbbahbhcaa.GoV.ReadNest w Go.Proofs.Ytpaakpbbahbhcaa.GoVSighting.lay A0 aList)) (N0 : Hid (aList.length ≤ 9223372036854775807))  {r : Bool} (H : Hid (P fuel aList aA aB = some r)) :
    Calls Try.prog 12 #[.slice A0 aList.length c0, .int .i64 aA, .int .i64 aB] w (Gives (.bool r) w) := by
  have HB := Lib.hid (Below.refl w.heap.size w)
  unfold P at H
  have N0o := N0.out
  go_enter Try.func12, Try.ntmps12
  replace H := bind_hid H
  obtain ⟨t_4, qt_4, H⟩ := H
  go_wp2_with fail
  go_at_call 30
  refine (Go.Proofs.Ytpaakpbbahbhcaa.GlSzSightingS.C (aList) (1048576) A0 c0 _   (Lib.hid (Go.Proofs.Ytpaakpbbahbhcaa.GoV.read_below M0.out HB.out)) N0 qt_4).mono ?_
  rintro e_t_4 wt_4 ⟨rfl, bt_4⟩
  have HBwt_4 := Lib.hid (Below.step HB.out bt_4)
  clear bt_4
  replace H := let_hid H
  obtain ⟨t_7, ht_7, H⟩ := H
  cases t_7 with
  | false =>
    replace H := ite_f H
    replace H := bind_hid H
    obtain ⟨t_10, qt_10, H⟩ := H
    go_wp2_with fail
    go_at_call 31
    refine (Go.Proofs.Ytpaakpbbahbhcaa.GlToSightingS.C (aList) A0 c0 _   (Lib.hid (Go.Proofs.Ytpaakpbbahbhcaa.GoV.read_below M0.out HBwt_4.out)) N0 qt_10).mono ?_
    rintro e_t_10 wt_10 ⟨At_10, ct_10, rfl, ⟨Bt_10, ot_10⟩, bt_10⟩
    have Ot_10 := Lib.hid (Go.Proofs.Ytpaakpbbahbhcaa.GoV.nest_lower ot_10 HBwt_4.out.size)
    clear ot_10
    have HBwt_10 := Lib.hid (Below.step HBwt_4.out bt_10)
    clear bt_10
    replace H := bind2_hid H
    obtain ⟨t_13a, t_13b, qt_13, H⟩ := H
    go_wp2_with fail
    go_at_call 17
    refine (Go.Proofs.Ytpaakpbbahbhcaa.GsGreatestLimit.C fuel (t_10) (aA) (aB) At_10 ct_10 _   (Lib.hid (Go.Proofs.Ytpaakpbbahbhcaa.GoV.nest_read Ot_10.out)) (Lib.hid (Go.Proofs.Ytpaakpbbahbhcaa.GoV.nest_max Ot_10.out)) qt_13).mono ?_
    rintro e_t_13 wt_13 ⟨rfl, bt_13⟩
    have HBwt_13 := Lib.hid (Below.step HBwt_10.out bt_13)
    replace Ot_10 := Lib.hid (Go.Proofs.Ytpaakpbbahbhcaa.GoV.nest_below Ot_10.out bt_13)
    clear bt_13
    replace H := bind_hid H
    obtain ⟨t_20, qt_20, H⟩ := H
    go_wp2_with fail
    go_at_call 31
    refine (Go.Proofs.Ytpaakpbbahbhcaa.GlToSightingS.C (aList) A0 c0 _   (Lib.hid (Go.Proofs.Ytpaakpbbahbhcaa.GoV.read_below M0.out HBwt_13.out)) N0 qt_20).mono ?_
    rintro e_t_20 wt_20 ⟨At_20, ct_20, rfl, ⟨Bt_20, ot_20⟩, bt_20⟩
    have Dt_20_t_10 := Lib.hid (Go.Proofs.Ytpaakpbbahbhcaa.GoV.lts_apart (Go.Proofs.Ytpaakpbbahbhcaa.GoV.nest_lt ot_20) (Go.Proofs.Ytpaakpbbahbhcaa.GoV.nest_lt Ot_10.out))
    have Ot_20 := Lib.hid (Go.Proofs.Ytpaakpbbahbhcaa.GoV.nest_lower ot_20 HBwt_13.out.size)
    clear ot_20
    have HBwt_20 := Lib.hid (Below.step HBwt_13.out bt_20)
    replace Ot_10 := Lib.hid (Go.Proofs.Ytpaakpbbahbhcaa.GoV.nest_below Ot_10.out bt_20)
    clear bt_20
    replace H := bind2_hid H
    obtain ⟨t_25a, t_25b, qt_25, H⟩ := H
    go_wp2_with fail
    go_at_call 16
    refine (Go.Proofs.Ytpaakpbbahbhcaa.GiGreatestLimit.C (t_20) (aA) (aB) At_20 ct_20 _   (Lib.hid (Go.Proofs.Ytpaakpbbahbhcaa.GoV.nest_read Ot_20.out)) (Lib.hid (Go.Proofs.Ytpaakpbbahbhcaa.GoV.nest_max Ot_20.out)) qt_25).mono ?_
    rintro e_t_25 wt_25 ⟨rfl, bt_25⟩
    have HBwt_25 := Lib.hid (Below.step HBwt_20.out bt_25)
    replace Ot_10 := Lib.hid (Go.Proofs.Ytpaakpbbahbhcaa.GoV.nest_below Ot_10.out bt_25)
    replace Ot_20 := Lib.hid (Go.Proofs.Ytpaakpbbahbhcaa.GoV.nest_below Ot_20.out bt_25)
    clear bt_25
    replace H := let_hid H
    obtain ⟨t_33, ht_33, H⟩ := H
    replace H := join_hid H
    cases t_33 with
    | false =>
      replace H := ite_f H
      replace H := let_hid H
      obtain ⟨t_37, ht_37, H⟩ := H
      replace H := app_hid H
      cases t_37 with
      | false =>
        replace H := ite_f H
        replace H := bind_hid H
        obtain ⟨t_42, qt_42, H⟩ := H
        go_wp2_with fail
        go_at_call 31
        refine (Go.Proofs.Ytpaakpbbahbhcaa.GlToSightingS.C (aList) A0 c0 _   (Lib.hid (Go.Proofs.Ytpaakpbbahbhcaa.GoV.read_below M0.out HBwt_25.out)) N0 qt_42).mono ?_
        rintro e_t_42 wt_42 ⟨At_42, ct_42, rfl, ⟨Bt_42, ot_42⟩, bt_42⟩
        have Dt_42_t_10 := Lib.hid (Go.Proofs.Ytpaakpbbahbhcaa.GoV.lts_apart (Go.Proofs.Ytpaakpbbahbhcaa.GoV.nest_lt ot_42) (Go.Proofs.Ytpaakpbbahbhcaa.GoV.nest_lt Ot_10.out))
        have Dt_42_t_20 := Lib.hid (Go.Proofs.Ytpaakpbbahbhcaa.GoV.lts_apart (Go.Proofs.Ytpaakpbbahbhcaa.GoV.nest_lt ot_42) (Go.Proofs.Ytpaakpbbahbhcaa.GoV.nest_lt Ot_20.out))
        have Ot_42 := Lib.hid (Go.Proofs.Ytpaakpbbahbhcaa.GoV.nest_lower ot_42 HBwt_25.out.size)
        clear ot_42
        have HBwt_42 := Lib.hid (Below.step HBwt_25.out bt_42)
        replace Ot_10 := Lib.hid (Go.Proofs.Ytpaakpbbahbhcaa.GoV.nest_below Ot_10.out bt_42)
        replace Ot_20 := Lib.hid (Go.Proofs.Ytpaakpbbahbhcaa.GoV.nest_below Ot_20.out bt_42)
        clear bt_42
        replace H := bind_hid H
        obtain ⟨t_43, qt_43, H⟩ := H
        go_wp2_with fail
        go_at_call 32
        refine (Go.Proofs.Ytpaakpbbahbhcaa.GlEqSightingS.C (t_20) (t_42) At_20 ct_20 At_42 ct_42 _   (Lib.hid (Go.Proofs.Ytpaakpbbahbhcaa.GoV.nest_read Ot_20.out)) (Lib.hid (Go.Proofs.Ytpaakpbbahbhcaa.GoV.nest_max Ot_20.out)) (Lib.hid (Go.Proofs.Ytpaakpbbahbhcaa.GoV.nest_read Ot_42.out)) (Lib.hid (Go.Proofs.Ytpaakpbbahbhcaa.GoV.nest_max Ot_42.out)) qt_43).mono ?_
        rintro e_t_43 wt_43 ⟨rfl, bt_43⟩
        have HBwt_43 := Lib.hid (Below.step HBwt_42.out bt_43)
        replace Ot_10 := Lib.hid (Go.Proofs.Ytpaakpbbahbhcaa.GoV.nest_below Ot_10.out bt_43)
        replace Ot_20 := Lib.hid (Go.Proofs.Ytpaakpbbahbhcaa.GoV.nest_below Ot_20.out bt_43)
        replace Ot_42 := Lib.hid (Go.Proofs.Ytpaakpbbahbhcaa.GoV.nest_below Ot_42.out bt_43)
        clear bt_43
        cases t_43 with
        | false =>
          replace H := let_hid H
          obtain ⟨t_44, ht_44, H⟩ := H
          obtain rfl : t_44 = true := ht_44.symm
          replace H := ite_t H
          obtain rfl := ret_hid H
          go_wp2_with fail
          go_ret
          exact ⟨rfl, HBwt_43.out⟩
        | true =>
          replace H := let_hid H
          obtain ⟨t_44, ht_44, H⟩ := H
          obtain rfl : t_44 = false := ht_44.symm
          replace H := ite_f H
          obtain rfl := ret_hid H
          go_wp2_with fail
          go_ret
          exact ⟨rfl, HBwt_43.out⟩
      | true =>
        replace H := ite_t H
        obtain rfl := ret_hid H
        go_wp2_with fail
        go_ret
        exact ⟨rfl, HBwt_25.out⟩
    | true =>
      replace H := ite_t H
      replace H := app_hid H
      replace H := ite_t H
      obtain rfl := ret_hid H
      go_wp2_with fail
      go_ret
      exact ⟨rfl, HBwt_25.out⟩
  | true =>
    replace H := ite_t H
    obtain rfl := ret_hid H
    go_wp2_with fail
    go_ret
    exact ⟨rfl, HBwt_4.out⟩
end Go.Proofs.Ytpaakpbbahbhcaa.GlFnExactGreatestLimit

/- Chapter 13: censuses: the plain functions of the program and of the reference agree, and the laws answer true. (Q13Great) No condition but those of each theorem. -/
namespace Go.Proofs.Ytpaakpbbahbhcaa.Q13Great
set_option linter.unusedVariables false
set_option linter.unusedSimpArgs false
open Go.RowKit
open Go.Proofs.Ytpaakpbbahbhcaa.GoP Go.Proofs.Ytpaakpbbahbhcaa.PlainStamp Go.Proofs.Ytpaakpbbahbhcaa.QBase Go.Proofs.Ytpaakpbbahbhcaa.Q13Find Go.Proofs.Ytpaakpbbahbhcaa.Q13Tools Go.Proofs.Ytpaakpbbahbhcaa.Q13Cover Go.Proofs.Ytpaakpbbahbhcaa.Q13Has Go.Proofs.Ytpaakpbbahbhcaa.Q13Bonds Go.Proofs.Ytpaakpbbahbhcaa.Q13Ev Go.Proofs.Ytpaakpbbahbhcaa.Q13List Go.Proofs.Ytpaakpbbahbhcaa.Q13One Go.Proofs.Ytpaakpbbahbhcaa.QUp Go.Proofs.Ytpaakpbbahbhcaa.QLoop Go.Proofs.Ytpaakpbbahbhcaa.PSighting

def greatRes (l : List Sighting) (a b : Int) : Int × Bool := if okSis l = true ∧ 0 ≤ fnd l a ∧ 0 ≤ fnd l b ∧ fnd l a ≠ fnd l b then (tabF l (fnd l a).toNat (fnd l b).toNat, true) else (0, false)
theorem great_impl (l : List Sighting) (a b : Int) : GiGreatestLimit.P l a b = some (greatRes l a b) := by
  simp only [GiGreatestLimit.P, indexOf_eq, Option.bind_some, letK, joinK, appK, iteK_if, greatRes]
  cases hk : okSis l with
  | false => simp
  | true =>
    simp only [if_true, true_and]
    rcases find_cases l a with ⟨i, x, h1, h2, _⟩ | ⟨h1, _⟩
    · rcases find_cases l b with ⟨j, y, g1, g2, _⟩ | ⟨g1, _⟩
      · rw [h1, g1]
        have hn := okSis_len hk
        have hi := (List.getElem?_eq_some_iff.1 h2).1
        have hj := (List.getElem?_eq_some_iff.1 g2).1
        rw [if_neg (by simp), if_neg (by simp)]
        by_cases hij : i = j
        · subst hij; rw [if_pos (by simp), if_neg (by simp)]
        · rw [if_neg (by simp; omega), if_pos (by omega)]
          obtain ⟨T, hT1, hT⟩ := bonds_eq l hk
          simp only [hT1, Option.bind_some, Int.toNat_natCast]
          rw [guardK_pos (by omega), guardK_pos hT.1]
          have hv : idx [Go.Proofs.Ytpaakpbbahbhcaa.GoA.nth T (i * 10 + 0), Go.Proofs.Ytpaakpbbahbhcaa.GoA.nth T (i * 10 + 1), Go.Proofs.Ytpaakpbbahbhcaa.GoA.nth T (i * 10 + 2), Go.Proofs.Ytpaakpbbahbhcaa.GoA.nth T (i * 10 + 3), Go.Proofs.Ytpaakpbbahbhcaa.GoA.nth T (i * 10 + 4), Go.Proofs.Ytpaakpbbahbhcaa.GoA.nth T (i * 10 + 5), Go.Proofs.Ytpaakpbbahbhcaa.GoA.nth T (i * 10 + 6), Go.Proofs.Ytpaakpbbahbhcaa.GoA.nth T (i * 10 + 7), Go.Proofs.Ytpaakpbbahbhcaa.GoA.nth T (i * 10 + 8), Go.Proofs.Ytpaakpbbahbhcaa.GoA.nth T (i * 10 + 9)] (j : Int) = some (tabF l i j) := by
            rw [← hT.2 i j hi hj, idx_nat]
            have hj10 : j < 10 := by omega
            clear g1 g2 hj hij
            rcases j with _ | _ | _ | _ | _ | _ | _ | _ | _ | _ | j
            all_goals first | rfl | omega
          simp only [hv, Option.bind_some]
      · rw [h1, g1, if_neg (by simp), if_pos (by simp), if_neg (by omega)]
    · rw [h1, if_pos (by simp), if_neg (by omega)]
theorem great_spec (l : List Sighting) (a b : Int) (hf : ∀ s ∈ l, sz13 s) (hl : l.length ≤ 9223372036854775807) (fuel : Nat) (hfu : 2000 ≤ fuel) : GsGreatestLimit.P fuel l a b = some (greatRes l a b) := by
  simp only [GsGreatestLimit.P, l13Find_eq, l13Good_eq l hf hl, Option.bind_some, letK, joinK, appK, iteK_if, greatRes]
  cases hk : okSis l with
  | false => simp
  | true =>
    simp only [Bool.not_true, Bool.false_eq_true, if_false, true_and]
    rcases find_cases l a with ⟨i, x, h1, h2, _⟩ | ⟨h1, _⟩
    · rcases find_cases l b with ⟨j, y, g1, g2, _⟩ | ⟨g1, _⟩
      · rw [h1, g1]
        have hn := okSis_len hk
        have hi := (List.getElem?_eq_some_iff.1 h2).1
        have hj := (List.getElem?_eq_some_iff.1 g2).1
        rw [if_neg (by simp), if_neg (by simp)]
        by_cases hij : i = j
        · subst hij; rw [if_pos (by simp), if_neg (by simp)]
        · rw [if_neg (by simp; omega), if_pos (by omega), Int.toNat_natCast, Int.toNat_natCast]
          have hb := tab_bound hk hi hj
          refine lp_is (n := 46) _ (fun p (s : Int) => s = 16 - (p : Int) ∧ tabF l i j ≤ s) ?_ ?_ fuel 0 _ (by omega) (by omega) ⟨by simp, hb.2⟩
          · rintro p s nx hp ⟨rfl, hle⟩ hn'
            have hin : decide ((j : Int) ∈ cov l (16 - (p : Int)) i) = decide (16 - (p : Int) ≤ tabF l i j) := by
              rw [decide_eq_decide, cov_mem]
              constructor
              · rintro ⟨j', e, _, h⟩
                obtain rfl : j = j' := by omega
                exact h
              · intro h; exact ⟨j, rfl, hj, h⟩
            have w1 := wrap_in (x := 16 - (p : Int) - 1) (by omega) (by omega)
            simp only [GsGreatestLimit.l0, letK, iteK_if, appK, cover_eq hk (by omega : 16 - (p : Int) ≤ 16) hi fuel hfu, has_eq, hin, Option.bind_some, w1]
            rw [if_pos (by simp; omega)]
            by_cases h : 16 - (p : Int) ≤ tabF l i j
            · rw [if_pos (by simpa using h)]
              have : 16 - (p : Int) = tabF l i j := by omega
              rw [this]
            · rw [if_neg (by simpa using h)]
              exact hn' _ ⟨by omega, by omega⟩
          · rintro s nx ⟨rfl, hle⟩
            omega
      · rw [h1, g1]; simp
    · rw [h1]; simp
end Go.Proofs.Ytpaakpbbahbhcaa.Q13Great

/- Chapter 13: censuses: the plain functions of the program and of the reference agree, and the laws answer true. (QL13Great) No condition but those of each theorem. -/
namespace Go.Proofs.Ytpaakpbbahbhcaa.QL13Great
set_option linter.unusedVariables false
set_option linter.unusedSimpArgs false
open Go.RowKit
open Go.Proofs.Ytpaakpbbahbhcaa.GoP Go.Proofs.Ytpaakpbbahbhcaa.PlainStamp Go.Proofs.Ytpaakpbbahbhcaa.QBase Go.Proofs.Ytpaakpbbahbhcaa.Q13Great Go.Proofs.Ytpaakpbbahbhcaa.Q13One Go.Proofs.Ytpaakpbbahbhcaa.QF13 Go.Proofs.Ytpaakpbbahbhcaa.QLoop Go.Proofs.Ytpaakpbbahbhcaa.PSighting Go.Proofs.Ytpaakpbbahbhcaa.QHVSightingE

theorem law_greatestLimit (fuel : Nat) (hfu : 2000 ≤ fuel) (l : List Sighting) (a b : Int) (hF : ∀ s ∈ l, Go.Proofs.Ytpaakpbbahbhcaa.OVSighting.Fits s) (hl : l.length ≤ 9223372036854775807) : GlFnExactGreatestLimit.P fuel l a b = some true := by
  have hf : ∀ s ∈ l, sz13 s := fun s hs => fits_sz (hF s hs)
  obtain ⟨v, hv, hn⟩ := szS l hf hl
  simp only [GlFnExactGreatestLimit.P, hv, Option.bind_some, letK, iteK_if]
  by_cases hb : v < 0
  · rw [if_pos (by simpa using hb)]
  · rw [if_neg (by simpa using hb)]
    obtain ⟨⟨p, q⟩, hr⟩ : ∃ x, x = greatRes l a b := ⟨_, rfl⟩
    simp [toS l (hn (by omega)), great_impl, great_spec l a b hf hl fuel hfu, ← hr, bind2, joinK, appK, iteK_if, eqS]
end Go.Proofs.Ytpaakpbbahbhcaa.QL13Great

