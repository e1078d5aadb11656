/- Texts on which the proofs of several laws stand, one behind the other (7 of 10). No condition of their own. -/
import Derived.Test.YtlljmgphgmklcaaDoorChecked
import Derived.Test.YtlljmgphgmklcaaDoorR10P1
import Derived.Test.YtlljmgphgmklcaaDoorR10P2
import Derived.Test.YtlljmgphgmklcaaDoorR10P4
import Derived.WalkKit
import Derived.WalkSpells
import Derived.WalkLawsBesides
import Derived.BigQuiet
import Derived.OwnWalk
import Derived.Deep.LoopGhost
import Derived.Deep.QuietTactic
import Derived.IntWalk
import Derived.Lib.QuietBelow
import Derived.Test.YtlljmgphgmklcaaDoorR10P3
import Derived.Test.YtlljmgphgmklcaaDoorR10P6
import Derived.Test.YtlljmgphgmklcaaDoorR10P5
import Derived.Lib.ItoaMem
import Derived.Lib.Hide
import Derived.Lib.ItoaLen
import Derived.Outline
import Derived.WalkSmall
/- loop.example/g01062/impl.HeaviestFor as a plain function, and the contract of the program's: where the plain one has an answer, the program has it. Conditions: slices read as lists. -/
namespace Go.Proofs.YtlljmgphgmklcaaDoor.GiHeaviestFor
set_option linter.unusedVariables false
set_option linter.unusedSimpArgs false
open Go.RowKit
open Go.Proofs.YtlljmgphgmklcaaDoor.Rowed Go.Proofs.YtlljmgphgmklcaaDoor.Turn Go.Proofs.YtlljmgphgmklcaaDoor.Aid Go.Proofs.YtlljmgphgmklcaaDoor.GoP Go.Proofs.YtlljmgphgmklcaaDoor.GoM

def l0 (list : (List Go.Proofs.YtlljmgphgmklcaaDoor.PRate.Rate)) (day : Int) (zone : Int) (cents : Int) (k0 : Nat) (s : Int) (nx0 bk0 : Int → Option (Int × Bool)) : Option (Int × Bool) :=
  letK s fun heaviest_10l0 =>
  Option.bind (idx list (k0 : Int)) fun (yt_27 : Go.Proofs.YtlljmgphgmklcaaDoor.PRate.Rate) =>
  unRate yt_27 fun (t_27_zone : Int) (t_27_grams : Int) (t_27_from_ : Int) (t_27_until_ : Int) (t_27_cents : Int) =>
  letK (t_27_zone == zone) fun (t_34 : Bool) =>
  joinK (fun (t_40 : Bool) =>
  joinK (fun (t_48 : Bool) =>
  iteK t_48
  (appK nx0 (t_27_grams))
  (appK nx0 (heaviest_10l0))) fun jt_48 => iteK t_40 (Option.bind (Go.Proofs.YtlljmgphgmklcaaDoor.GiWithin.P day t_27_from_ t_27_until_) fun (t_47 : Bool) =>
  appK jt_48 t_47) (appK jt_48 false)) fun jt_40 => iteK t_34 (letK (decide (t_27_cents ≤ cents)) fun (t_39 : Bool) =>
  appK jt_40 t_39) (appK jt_40 false)

def e0  (s : Int) : Option (Int × Bool) :=
  letK s fun heaviest_10l0 =>
  letK (decide (0 < heaviest_10l0)) fun (t_56 : Bool) =>
  some (heaviest_10l0, t_56)

def P (list : (List Go.Proofs.YtlljmgphgmklcaaDoor.PRate.Rate)) (day : Int) (zone : Int) (cents : Int) : Option (Int × Bool) :=
  Option.bind (Go.Proofs.YtlljmgphgmklcaaDoor.GiAreRates.P list) fun (t_3 : Bool) =>
  letK (!t_3) fun (t_4 : Bool) =>
  joinK (fun (t_9 : Bool) =>
  joinK (fun (t_14 : Bool) =>
  joinK (fun (t_19 : Bool) =>
  iteK t_19
  (some (0, false))
  (cntK (l0 list day zone cents) (list.length) 0 (0) (e0 ))) fun jt_19 => iteK t_14 (appK jt_19 true) (Option.bind (Go.Proofs.YtlljmgphgmklcaaDoor.GiIsRateCents.P cents) fun (t_17 : Bool) =>
  letK (!t_17) fun (t_18 : Bool) =>
  appK jt_19 t_18)) fun jt_14 => iteK t_9 (appK jt_14 true) (Option.bind (Go.Proofs.YtlljmgphgmklcaaDoor.GiIsZone.P zone) fun (t_12 : Bool) =>
  letK (!t_12) fun (t_13 : Bool) =>
  appK jt_14 t_13)) fun jt_9 => iteK t_4 (appK jt_9 true) (Option.bind (Go.Proofs.YtlljmgphgmklcaaDoor.GiIsDay.P day) fun (t_7 : Bool) =>
  letK (!t_7) fun (t_8 : Bool) =>
  appK jt_9 t_8)

set_option maxRecDepth 100000 in
set_option maxHeartbeats 2000000 in
theorem C (list : (List Go.Proofs.YtlljmgphgmklcaaDoor.PRate.Rate)) (day : Int) (zone : Int) (cents : Int) (A0 : Option Addr) (c0 : Nat)  (w : World) (M0 : Hid (Cells w 5 A0 list.length (Go.Proofs.YtlljmgphgmklcaaDoor.PRate.flat list))) (N0 : Hid (list.length ≤ 9223372036854775807))  {r0 : Int} {r1 : Bool} (H : Hid (P list day zone cents = some (r0, r1))) :
    Calls Tryd.prog 14 #[.slice A0 list.length c0, .int .i64 day, .int .i64 zone, .int .i64 cents] w (Gives (.tuple #[.int .i64 r0, .bool r1]) w) := by
  have HB := Lib.hid (Below.refl w.heap.size w)
  unfold P at H
  have N0o := N0.out
  go_enter Tryd.func14, Tryd.ntmps14
  replace H := bind_hid H
  obtain ⟨t_3, qt_3, H⟩ := H
  go_wp2_with fail
  go_at_call 9
  refine (Go.Proofs.YtlljmgphgmklcaaDoor.GiAreRates.C (list) A0 c0 _   (Lib.hid (Cells.below M0.out HB.out)) N0 qt_3).mono ?_
  rintro e_t_3 wt_3 ⟨rfl, bt_3⟩
  have HBwt_3 := Lib.hid (Below.step HB.out bt_3)
  clear bt_3
  cases t_3 with
  | false =>
    replace H := let_hid H
    obtain ⟨t_4, ht_4, H⟩ := H
    obtain rfl : t_4 = true := ht_4.symm
    replace H := join_hid H
    replace H := ite_t H
    replace H := app_hid H
    replace H := join_hid H
    replace H := ite_t H
    replace H := app_hid H
    replace H := join_hid H
    replace H := ite_t H
    replace H := app_hid H
    replace H := ite_t H
    cases ret_hid H
    go_wp2_with fail
    go_ret2
    exact ⟨rfl, HBwt_3.out⟩
  | true =>
    replace H := let_hid H
    obtain ⟨t_4, ht_4, H⟩ := H
    obtain rfl : t_4 = false := ht_4.symm
    replace H := join_hid H
    replace H := ite_f H
    replace H := bind_hid H
    obtain ⟨t_7, qt_7, H⟩ := H
    go_wp2_with fail
    go_at_call 31
    refine (Go.Proofs.YtlljmgphgmklcaaDoor.GiIsDay.C (day)  _    qt_7).mono ?_
    rintro e_t_7 wt_7 ⟨rfl, bt_7⟩
    have HBwt_7 := Lib.hid (Below.step HBwt_3.out bt_7)
    clear bt_7
    cases t_7 with
    | false =>
      replace H := let_hid H
      obtain ⟨t_8, ht_8, H⟩ := H
      obtain rfl : t_8 = true := ht_8.symm
      replace H := app_hid H
      replace H := join_hid H
      replace H := ite_t H
      replace H := app_hid H
      replace H := join_hid H
      replace H := ite_t H
      replace H := app_hid H
      replace H := ite_t H
      cases ret_hid H
      go_wp2_with fail
      go_ret2
      exact ⟨rfl, HBwt_7.out⟩
    | true =>
      replace H := let_hid H
      obtain ⟨t_8, ht_8, H⟩ := H
      obtain rfl : t_8 = false := ht_8.symm
      replace H := app_hid H
      replace H := join_hid H
      replace H := ite_f H
      replace H := bind_hid H
      obtain ⟨t_12, qt_12, H⟩ := H
      go_wp2_with fail
      go_at_call 35
      refine (Go.Proofs.YtlljmgphgmklcaaDoor.GiIsZone.C (zone)  _    qt_12).mono ?_
      rintro e_t_12 wt_12 ⟨rfl, bt_12⟩
      have HBwt_12 := Lib.hid (Below.step HBwt_7.out bt_12)
      clear bt_12
      cases t_12 with
      | false =>
        replace H := let_hid H
        obtain ⟨t_13, ht_13, H⟩ := H
        obtain rfl : t_13 = true := ht_13.symm
        replace H := app_hid H
        replace H := join_hid H
        replace H := ite_t H
        replace H := app_hid H
        replace H := ite_t H
        cases ret_hid H
        go_wp2_with fail
        go_ret2
        exact ⟨rfl, HBwt_12.out⟩
      | true =>
        replace H := let_hid H
        obtain ⟨t_13, ht_13, H⟩ := H
        obtain rfl : t_13 = false := ht_13.symm
        replace H := app_hid H
        replace H := join_hid H
        replace H := ite_f H
        replace H := bind_hid H
        obtain ⟨t_17, qt_17, H⟩ := H
        go_wp2_with fail
        go_at_call 36
        refine (Go.Proofs.YtlljmgphgmklcaaDoor.GiIsRateCents.C (cents)  _    qt_17).mono ?_
        rintro e_t_17 wt_17 ⟨rfl, bt_17⟩
        have HBwt_17 := Lib.hid (Below.step HBwt_12.out bt_17)
        clear bt_17
        cases t_17 with
        | false =>
          replace H := let_hid H
          obtain ⟨t_18, ht_18, H⟩ := H
          obtain rfl : t_18 = true := ht_18.symm
          replace H := app_hid H
          replace H := ite_t H
          cases ret_hid H
          go_wp2_with fail
          go_ret2
          exact ⟨rfl, HBwt_17.out⟩
        | true =>
          replace H := let_hid H
          obtain ⟨t_18, ht_18, H⟩ := H
          obtain rfl : t_18 = false := ht_18.symm
          replace H := app_hid H
          replace H := ite_f H
          go_wp2_with fail
          go_loopg [33, 10] (list.length) (fun m_ v33_ v10_ wr => ∃ (k0 : Nat) (heaviest_10l0 : Int), k0 + m_ = list.length ∧ v33_ = .int .i64 (k0 : Int) ∧ v10_ = .int .i64 heaviest_10l0 ∧ Hid (cntK (l0 list day zone cents) m_ k0 (heaviest_10l0) (e0 ) = some (r0, r1)) ∧ Hid (Below w.heap.size w wr))
          case atStart => exact ⟨0, _, by omega, rfl, rfl, H, HBwt_17⟩
          case round =>
            obtain ⟨k0, heaviest_10l0, hkm0, rfl, rfl, H, HBwr0⟩ := hrel
            rename World => wr0
            cases gk with
            | zero =>
              obtain rfl : k0 = list.length := by omega
              have hc0 : decide (((list.length : Nat) : Int) < ((list.length : Nat) : Int)) = false := by simp
              replace H := cnt_zero H
              unfold e0 at H
              replace H := let_hid H
              obtain ⟨_, rfl, H⟩ := H
              replace H := let_hid H
              obtain ⟨t_56, ht_56, H⟩ := H
              cases ret_hid H
              go_wp2_with fail
              go_ret2
              exact ⟨rfl, HBwr0.out⟩
            | succ m0 =>
              have hlt0 : k0 < list.length := by omega
              have hc0 : decide ((k0 : Int) < ((list.length : Nat) : Int)) = true := by simp; omega
              replace H := cnt_succ H
              unfold l0 at H
              replace H := let_hid H
              obtain ⟨_, rfl, H⟩ := H
              replace H := idx_hid H
              obtain ⟨nt_27, yt_27, et_27, lt_27, gt_27, H⟩ := H
              obtain rfl : k0 = nt_27 := by omega
              clear et_27
              obtain ⟨t_27_zone, t_27_grams, t_27_from_, t_27_until_, t_27_cents⟩ := yt_27
              replace H := unRate_hid H
              obtain ⟨ab_t_27, ao_t_27, zt_27, At_27, z_t_27, ct_27_0, ct_27_1, ct_27_2, ct_27_3, ct_27_4⟩ := Go.Proofs.YtlljmgphgmklcaaDoor.ORate.at_ M0.out lt_27
              obtain rfl := Option.some.inj (gt_27.out.symm.trans z_t_27)
              subst At_27
              have ltt_27 := cell_lt ct_27_0
              replace ct_27_0 := cell_below HBwr0.out ct_27_0
              replace ct_27_1 := cell_below HBwr0.out ct_27_1
              replace ct_27_2 := cell_below HBwr0.out ct_27_2
              replace ct_27_3 := cell_below HBwr0.out ct_27_3
              replace ct_27_4 := cell_below HBwr0.out ct_27_4
              clear z_t_27
              have b0t_27 : (0 : Int) ≤ (k0 : Int) := by omega
              have b1t_27 : (k0 : Int) < ((list.length : Nat) : Int) := by omega
              have b2t_27 : ((k0 : Int)).toNat = k0 := by omega
              obtain ⟨w_r_29, hw_r_29⟩ : ∃ x, wr0.alloc (.cells #[.int .i64 t_27_zone, .int .i64 t_27_grams, .int .i64 t_27_from_, .int .i64 t_27_until_, .int .i64 t_27_cents] 38) = x := ⟨_, rfl⟩
              have bw_r_29 : Below wr0.heap.size wr0 w_r_29 := by rw [← hw_r_29]; exact (Below.refl _ _).alloc (Nat.le_refl _) _
              have HBw_r_29 := Lib.hid (Below.step HBwr0.out bw_r_29)
              have ct_27_0__179 := cell_below bw_r_29 ct_27_0
              have ct_27_1__180 := cell_below bw_r_29 ct_27_1
              have ct_27_2__181 := cell_below bw_r_29 ct_27_2
              have ct_27_3__182 := cell_below bw_r_29 ct_27_3
              have ct_27_4__183 := cell_below bw_r_29 ct_27_4
              clear bw_r_29
              have kr_29_0 : w_r_29.cell? ⟨wr0.heap.size, 0, none⟩ = some (.int .i64 t_27_zone) := by rw [← hw_r_29]; exact box_new _ _ _ 0 _ rfl
              have kr_29_1 : w_r_29.cell? ⟨wr0.heap.size, 1, none⟩ = some (.int .i64 t_27_grams) := by rw [← hw_r_29]; exact box_new _ _ _ 1 _ rfl
              have kr_29_2 : w_r_29.cell? ⟨wr0.heap.size, 2, none⟩ = some (.int .i64 t_27_from_) := by rw [← hw_r_29]; exact box_new _ _ _ 2 _ rfl
              have kr_29_3 : w_r_29.cell? ⟨wr0.heap.size, 3, none⟩ = some (.int .i64 t_27_until_) := by rw [← hw_r_29]; exact box_new _ _ _ 3 _ rfl
              have kr_29_4 : w_r_29.cell? ⟨wr0.heap.size, 4, none⟩ = some (.int .i64 t_27_cents) := by rw [← hw_r_29]; exact box_new _ _ _ 4 _ rfl
              replace H := let_hid H
              obtain ⟨t_34, ht_34, H⟩ := H
              replace H := join_hid H
              cases t_34 with
              | false =>
                replace H := ite_f H
                replace H := app_hid H
                replace H := join_hid H
                replace H := ite_f H
                replace H := app_hid H
                replace H := ite_f H
                replace H := app_hid H
                go_wp2_with fail
                clear ct_27_0 ct_27_1 ct_27_2 ct_27_3 ct_27_4
                go_roundg m0
                case measure => omega
                case rel => exact ⟨k0 + 1, _, by omega, by go_num, rfl, H, HBw_r_29⟩
              | true =>
                replace H := ite_t H
                replace H := let_hid H
                obtain ⟨t_39, ht_39, H⟩ := H
                replace H := app_hid H
                replace H := join_hid H
                cases t_39 with
                | false =>
                  replace H := ite_f H
                  replace H := app_hid H
                  replace H := ite_f H
                  replace H := app_hid H
                  go_wp2_with fail
                  clear ct_27_0 ct_27_1 ct_27_2 ct_27_3 ct_27_4
                  go_roundg m0
                  case measure => omega
                  case rel => exact ⟨k0 + 1, _, by omega, by go_num, rfl, H, HBw_r_29⟩
                | true =>
                  replace H := ite_t H
                  replace H := bind_hid H
                  obtain ⟨t_47, qt_47, H⟩ := H
                  go_wp2_with fail
                  clear ct_27_0 ct_27_1 ct_27_2 ct_27_3 ct_27_4
                  go_at_call 37
                  refine (Go.Proofs.YtlljmgphgmklcaaDoor.GiWithin.C (day) (t_27_from_) (t_27_until_)  _    qt_47).mono ?_
                  rintro e_t_47 wt_47 ⟨rfl, bt_47⟩
                  have HBwt_47 := Lib.hid (Below.step HBw_r_29.out bt_47)
                  replace ct_27_0__179 := cell_below bt_47 ct_27_0__179
                  replace ct_27_1__180 := cell_below bt_47 ct_27_1__180
                  replace ct_27_2__181 := cell_below bt_47 ct_27_2__181
                  replace ct_27_3__182 := cell_below bt_47 ct_27_3__182
                  replace ct_27_4__183 := cell_below bt_47 ct_27_4__183
                  replace kr_29_0 := cell_below bt_47 kr_29_0
                  replace kr_29_1 := cell_below bt_47 kr_29_1
                  replace kr_29_2 := cell_below bt_47 kr_29_2
                  replace kr_29_3 := cell_below bt_47 kr_29_3
                  replace kr_29_4 := cell_below bt_47 kr_29_4
                  clear bt_47
                  replace H := app_hid H
                  cases t_47 with
                  | false =>
                    replace H := ite_f H
                    replace H := app_hid H
                    go_wp2_with fail
                    go_roundg m0
                    case measure => omega
                    case rel => exact ⟨k0 + 1, _, by omega, by go_num, rfl, H, HBwt_47⟩
                  | true =>
                    replace H := ite_t H
                    replace H := app_hid H
                    go_wp2_with fail
                    go_roundg m0
                    case measure => omega
                    case rel => exact ⟨k0 + 1, _, by omega, by go_num, rfl, H, HBwt_47⟩
end Go.Proofs.YtlljmgphgmklcaaDoor.GiHeaviestFor

/- loop.example/g01062/spec.DrawFirstWithout as a plain function, and the contract of the program's: where the plain one has an answer, the program has it. Conditions: slices read as lists. -/
namespace Go.Proofs.YtlljmgphgmklcaaDoor.GsDrawFirstWithout
set_option linter.unusedVariables false
set_option linter.unusedSimpArgs false
open Go.RowKit
open Go.Proofs.YtlljmgphgmklcaaDoor.Rowed Go.Proofs.YtlljmgphgmklcaaDoor.Turn Go.Proofs.YtlljmgphgmklcaaDoor.Aid Go.Proofs.YtlljmgphgmklcaaDoor.GoP Go.Proofs.YtlljmgphgmklcaaDoor.GoM

def P (fuel : Nat) (tapes : List Int → Go.Proofs.YtlljmgphgmklcaaDoor.GoC.Tape) (code : (List Int)) : Option ((List Go.Proofs.YtlljmgphgmklcaaDoor.PRate.Rate) × Int × Int × Int) :=
  letK (tapes code) fun (t_6 : Go.Proofs.YtlljmgphgmklcaaDoor.GoC.Tape) =>
  bind2 (Go.Proofs.YtlljmgphgmklcaaDoor.GsL1CurRates.P fuel t_6) fun (t_9 : (List Go.Proofs.YtlljmgphgmklcaaDoor.PRate.Rate)) (t_9_tp : Go.Proofs.YtlljmgphgmklcaaDoor.GoC.Tape) =>
  letK ([0, 0, 1, 2, 10]) fun (t_11 : (List Int)) =>
  bind2 (Go.Proofs.YtlljmgphgmklcaaDoor.GsL1CurAmong.P t_9_tp t_11) fun (t_12 : Int) (t_12_tp : Go.Proofs.YtlljmgphgmklcaaDoor.GoC.Tape) =>
  letK ([1, 20, 21, 51, 101, 0]) fun (t_14 : (List Int)) =>
  bind2 (Go.Proofs.YtlljmgphgmklcaaDoor.GsL1CurAmong.P t_12_tp t_14) fun (t_15 : Int) (t_15_tp : Go.Proofs.YtlljmgphgmklcaaDoor.GoC.Tape) =>
  bind2 (Go.Proofs.YtlljmgphgmklcaaDoor.GsL1CurRateDay.P t_15_tp) fun (t_17 : Int) (t_17_tp : Go.Proofs.YtlljmgphgmklcaaDoor.GoC.Tape) =>
  some (t_9, t_12, t_15, t_17)

set_option maxRecDepth 100000 in
set_option maxHeartbeats 2000000 in
theorem C (fuel : Nat) (tapes : List Int → Go.Proofs.YtlljmgphgmklcaaDoor.GoC.Tape) (code : (List Int)) (A0 : Option Addr) (c0 : Nat)  (w : World) (HE : Hid (Go.Proofs.YtlljmgphgmklcaaDoor.GoC.Tells tapes)) (M0 : Hid (Cells w 1 A0 code.length (Go.Proofs.YtlljmgphgmklcaaDoor.GoC.u8s code))) (N0 : Hid (code.length ≤ 9223372036854775807)) (V0 : Hid (∀ z ∈ code, 0 ≤ z ∧ z ≤ 255))  {r0 : (List Go.Proofs.YtlljmgphgmklcaaDoor.PRate.Rate)} {r1 : Int} {r2 : Int} {r3 : Int} (H : Hid (P fuel tapes code = some (r0, r1, r2, r3))) :
    Calls Tryd.prog 15 #[.slice A0 code.length c0] w (fun e w' => ∃ A_r0 c_r0, e = .returned (.tuple #[.slice A_r0 r0.length c_r0, .int .i64 r1, .int .i64 r2, .int .i64 r3]) ∧ w'.ownsRow w.heap.size 38 5 (.slice A_r0 r0.length c_r0) r0.length (Go.Proofs.YtlljmgphgmklcaaDoor.PRate.flat r0) ∧ Below w.heap.size w w') := by
  have HB := Lib.hid (Below.refl w.heap.size w)
  unfold P at H
  have N0o := N0.out
  go_enter Tryd.func15, Tryd.ntmps15
  replace H := let_hid H
  obtain ⟨t_6, ht_6, H⟩ := H
  obtain ⟨w_t_6, hw_t_6⟩ : ∃ x, w.alloc (.cells #[.slice A0 code.length c0, .int .i64 0, .int .u64 0] 46) = x := ⟨_, rfl⟩
  have bw_t_6 : Below w.heap.size w w_t_6 := by rw [← hw_t_6]; exact (Below.refl _ _).alloc (Nat.le_refl _) _
  have Kt_6 : Hid (Go.Proofs.YtlljmgphgmklcaaDoor.GoC.CurIs w_t_6 w.heap.size w.heap.size A0 c0 t_6) := Lib.hid (by rw [← hw_t_6, ← ht_6]; exact Go.Proofs.YtlljmgphgmklcaaDoor.GoC.cur_new HB.out.size (Cells.below M0.out HB.out) (fun a_ ha_ h0_ => by subst ha_; exact Go.Proofs.YtlljmgphgmklcaaDoor.GoC.cells_lt M0.out (by unfold Go.Proofs.YtlljmgphgmklcaaDoor.GoC.u8s; rw [List.length_map]; exact h0_)) (HE.out.2.2 code V0.out N0.out))
  have hht_6 := Lib.hid ht_6
  clear ht_6
  have HBw_t_6 := Lib.hid (Below.step HB.out bw_t_6)
  clear bw_t_6
  replace H := bind2_hid H
  obtain ⟨t_9, t_9_tp, qt_9, H⟩ := H
  go_wp2_with fail
  go_at_call 22
  refine (Go.Proofs.YtlljmgphgmklcaaDoor.GsL1CurRates.C fuel (t_6) (w.heap.size) (A0) (c0) (w.heap.size) _   Kt_6 qt_9).mono ?_
  rintro e_t_9 wt_9 ⟨At_9, ct_9, rfl, ot_9, kt_9, gt_9⟩
  have Dt_9_t_6 := Lib.hid (Go.Proofs.YtlljmgphgmklcaaDoor.GoC.apart_callcur ot_9 Kt_6.out)
  have Ot_9 := Lib.hid (own_lower ot_9 HBw_t_6.out.size)
  clear ot_9
  have Kt_9 := Lib.hid kt_9
  have Gt_9 : Hid (w_t_6.grownBy wt_9 (Value.slice (some ⟨w.heap.size, 0, none⟩) 1 1).ownBlock) := Lib.hid gt_9
  clear kt_9 gt_9
  have HBwt_9 := Lib.hid (Go.Proofs.YtlljmgphgmklcaaDoor.GoC.below_cur HBw_t_6.out Gt_9.out HBw_t_6.out.size (Go.Proofs.YtlljmgphgmklcaaDoor.GoC.cur_lt Kt_6.out).1)
  clear Kt_6 Gt_9
  replace H := let_hid H
  obtain ⟨t_11, ht_11, H⟩ := H
  obtain ⟨w_t_11, hw_t_11⟩ : ∃ x, wt_9.alloc (.cells #[.int .i64 0, .int .i64 0, .int .i64 1, .int .i64 2, .int .i64 10] 3) = x := ⟨_, rfl⟩
  have bw_t_11 : Below wt_9.heap.size wt_9 w_t_11 := by rw [← hw_t_11]; exact (Below.refl _ _).alloc (Nat.le_refl _) _
  have hs_t_11 := HBwt_9.out.size
  have nt_11 : t_11.length = 5 := by rw [← ht_11]; rfl
  have Ot_11 : Hid (w_t_11.ownsRow w.heap.size 3 1 (.slice (some ⟨wt_9.heap.size, 0, none⟩) 5 5) 5 (Go.Proofs.YtlljmgphgmklcaaDoor.HelpInt.iv t_11)) := by
    rw [← hw_t_11, ← ht_11]
    have e_ : ([.int .i64 0, .int .i64 0, .int .i64 1, .int .i64 2, .int .i64 10] : List Value) = (Go.Proofs.YtlljmgphgmklcaaDoor.HelpInt.iv ([0, 0, 1, 2, 10] : List Int)) := rfl
    exact Lib.hid (own_laid (n := 5) hs_t_11 e_ rfl (by unfold maxLen; omega))
  clear hs_t_11
  have hht_11 := Lib.hid ht_11
  clear ht_11
  replace nt_11 := Lib.hid nt_11
  have Dt_11_t_9 := Lib.hid (apart_fresh Ot_9.out)
  have Dt_11_t_6 := Lib.hid (Go.Proofs.YtlljmgphgmklcaaDoor.GoC.apart_cur Kt_9.out)
  have HBw_t_11 := Lib.hid (Below.step HBwt_9.out bw_t_11)
  replace Ot_9 := Lib.hid (own_below Ot_9.out bw_t_11)
  replace Kt_9 := Lib.hid (Go.Proofs.YtlljmgphgmklcaaDoor.GoC.cur_below Kt_9.out bw_t_11)
  clear bw_t_11
  replace H := bind2_hid H
  obtain ⟨t_12, t_12_tp, qt_12, H⟩ := H
  go_wp2_with fail
  have hc_ := nt_11.out
  have hv_ : (Value.slice (some ⟨wt_9.heap.size, 0, none⟩) 5 5 : Value) = Value.slice (some ⟨wt_9.heap.size, 0, none⟩) t_11.length 5 := by rw [hc_]
  try rw [hv_]
  replace Ot_11 := Lib.hid (own_len hc_ Ot_11.out)
  clear hc_ hv_
  go_wp2_with fail
  go_at_call 23
  refine (Go.Proofs.YtlljmgphgmklcaaDoor.GsL1CurAmong.C (t_9_tp) (t_11) (some ⟨wt_9.heap.size, 0, none⟩) 5 (w.heap.size) (A0) (c0) (w.heap.size) _   (Lib.hid (own_cells Ot_11.out)) (Lib.hid (own_max Ot_11.out)) Kt_9 (Lib.hid (fun _ => Dt_11_t_6.out)) qt_12).mono ?_
  rintro e_t_12 wt_12 ⟨rfl, kt_12, gt_12⟩
  have Kt_12 := Lib.hid kt_12
  have Gt_12 : Hid (w_t_11.grownBy wt_12 (Value.slice (some ⟨w.heap.size, 0, none⟩) 1 1).ownBlock) := Lib.hid gt_12
  clear kt_12 gt_12
  have HBwt_12 := Lib.hid (Go.Proofs.YtlljmgphgmklcaaDoor.GoC.below_cur HBw_t_11.out Gt_12.out HBw_t_11.out.size (Go.Proofs.YtlljmgphgmklcaaDoor.GoC.cur_lt Kt_9.out).1)
  replace Ot_9 := Lib.hid (own_other Ot_9.out Gt_12.out (Apart.symm Dt_9_t_6.out))
  replace Ot_11 := Lib.hid (own_other Ot_11.out Gt_12.out (Apart.symm Dt_11_t_6.out))
  clear Kt_9 Gt_12
  replace H := let_hid H
  obtain ⟨t_14, ht_14, H⟩ := H
  obtain ⟨w_t_14, hw_t_14⟩ : ∃ x, wt_12.alloc (.cells #[.int .i64 1, .int .i64 20, .int .i64 21, .int .i64 51, .int .i64 101, .int .i64 0] 3) = x := ⟨_, rfl⟩
  have bw_t_14 : Below wt_12.heap.size wt_12 w_t_14 := by rw [← hw_t_14]; exact (Below.refl _ _).alloc (Nat.le_refl _) _
  have hs_t_14 := HBwt_12.out.size
  have nt_14 : t_14.length = 6 := by rw [← ht_14]; rfl
  have Ot_14 : Hid (w_t_14.ownsRow w.heap.size 3 1 (.slice (some ⟨wt_12.heap.size, 0, none⟩) 6 6) 6 (Go.Proofs.YtlljmgphgmklcaaDoor.HelpInt.iv t_14)) := by
    rw [← hw_t_14, ← ht_14]
    have e_ : ([.int .i64 1, .int .i64 20, .int .i64 21, .int .i64 51, .int .i64 101, .int .i64 0] : List Value) = (Go.Proofs.YtlljmgphgmklcaaDoor.HelpInt.iv ([1, 20, 21, 51, 101, 0] : List Int)) := rfl
    exact Lib.hid (own_laid (n := 6) hs_t_14 e_ rfl (by unfold maxLen; omega))
  clear hs_t_14
  have hht_14 := Lib.hid ht_14
  clear ht_14
  replace nt_14 := Lib.hid nt_14
  have Dt_14_t_9 := Lib.hid (apart_fresh Ot_9.out)
  have Dt_14_t_11 := Lib.hid (apart_fresh Ot_11.out)
  have Dt_14_t_6 := Lib.hid (Go.Proofs.YtlljmgphgmklcaaDoor.GoC.apart_cur Kt_12.out)
  have HBw_t_14 := Lib.hid (Below.step HBwt_12.out bw_t_14)
  replace Ot_9 := Lib.hid (own_below Ot_9.out bw_t_14)
  replace Ot_11 := Lib.hid (own_below Ot_11.out bw_t_14)
  replace Kt_12 := Lib.hid (Go.Proofs.YtlljmgphgmklcaaDoor.GoC.cur_below Kt_12.out bw_t_14)
  clear bw_t_14
  replace H := bind2_hid H
  obtain ⟨t_15, t_15_tp, qt_15, H⟩ := H
  go_wp2_with fail
  have hc_ := nt_14.out
  have hv_ : (Value.slice (some ⟨wt_12.heap.size, 0, none⟩) 6 6 : Value) = Value.slice (some ⟨wt_12.heap.size, 0, none⟩) t_14.length 6 := by rw [hc_]
  try rw [hv_]
  replace Ot_14 := Lib.hid (own_len hc_ Ot_14.out)
  clear hc_ hv_
  go_wp2_with fail
  go_at_call 23
  refine (Go.Proofs.YtlljmgphgmklcaaDoor.GsL1CurAmong.C (t_12_tp) (t_14) (some ⟨wt_12.heap.size, 0, none⟩) 6 (w.heap.size) (A0) (c0) (w.heap.size) _   (Lib.hid (own_cells Ot_14.out)) (Lib.hid (own_max Ot_14.out)) Kt_12 (Lib.hid (fun _ => Dt_14_t_6.out)) qt_15).mono ?_
  rintro e_t_15 wt_15 ⟨rfl, kt_15, gt_15⟩
  have Kt_15 := Lib.hid kt_15
  have Gt_15 : Hid (w_t_14.grownBy wt_15 (Value.slice (some ⟨w.heap.size, 0, none⟩) 1 1).ownBlock) := Lib.hid gt_15
  clear kt_15 gt_15
  have HBwt_15 := Lib.hid (Go.Proofs.YtlljmgphgmklcaaDoor.GoC.below_cur HBw_t_14.out Gt_15.out HBw_t_14.out.size (Go.Proofs.YtlljmgphgmklcaaDoor.GoC.cur_lt Kt_12.out).1)
  replace Ot_9 := Lib.hid (own_other Ot_9.out Gt_15.out (Apart.symm Dt_9_t_6.out))
  replace Ot_11 := Lib.hid (own_other Ot_11.out Gt_15.out (Apart.symm Dt_11_t_6.out))
  replace Ot_14 := Lib.hid (own_other Ot_14.out Gt_15.out (Apart.symm Dt_14_t_6.out))
  clear Kt_12 Gt_15
  replace H := bind2_hid H
  obtain ⟨t_17, t_17_tp, qt_17, H⟩ := H
  go_wp2_with fail
  go_at_call 33
  refine (Go.Proofs.YtlljmgphgmklcaaDoor.GsL1CurRateDay.C (t_15_tp) (w.heap.size) (A0) (c0) (w.heap.size) _   Kt_15 qt_17).mono ?_
  rintro e_t_17 wt_17 ⟨rfl, kt_17, gt_17⟩
  have Kt_17 := Lib.hid kt_17
  have Gt_17 : Hid (wt_15.grownBy wt_17 (Value.slice (some ⟨w.heap.size, 0, none⟩) 1 1).ownBlock) := Lib.hid gt_17
  clear kt_17 gt_17
  have HBwt_17 := Lib.hid (Go.Proofs.YtlljmgphgmklcaaDoor.GoC.below_cur HBwt_15.out Gt_17.out HBwt_15.out.size (Go.Proofs.YtlljmgphgmklcaaDoor.GoC.cur_lt Kt_15.out).1)
  replace Ot_9 := Lib.hid (own_other Ot_9.out Gt_17.out (Apart.symm Dt_9_t_6.out))
  replace Ot_11 := Lib.hid (own_other Ot_11.out Gt_17.out (Apart.symm Dt_11_t_6.out))
  replace Ot_14 := Lib.hid (own_other Ot_14.out Gt_17.out (Apart.symm Dt_14_t_6.out))
  clear Kt_15 Gt_17
  cases ret_hid H
  go_wp2_with fail
  (try simp only [Exit.inBlock, Exit.then]); refine bodyPost_ret (results_tmp4 rfl _ _ _) rfl ?_
  exact ⟨At_9, ct_9, rfl, Ot_9.out, HBwt_17.out⟩
end Go.Proofs.YtlljmgphgmklcaaDoor.GsDrawFirstWithout

/- loop.example/g01062/impl.FirstWithout as a plain function, and the contract of the program's: where the plain one has an answer, the program has it. Conditions: slices read as lists. -/
namespace Go.Proofs.YtlljmgphgmklcaaDoor.GiFirstWithout
set_option linter.unusedVariables false
set_option linter.unusedSimpArgs false
open Go.RowKit
open Go.Proofs.YtlljmgphgmklcaaDoor.Rowed Go.Proofs.YtlljmgphgmklcaaDoor.Turn Go.Proofs.YtlljmgphgmklcaaDoor.Aid Go.Proofs.YtlljmgphgmklcaaDoor.GoP Go.Proofs.YtlljmgphgmklcaaDoor.GoM

def l0 (t_19 : (List Go.Proofs.YtlljmgphgmklcaaDoor.PIntA3.IntA3)) (k0 : Nat) (s : Int) (nx0 bk0 : Int → Option (Int × Bool)) : Option (Int × Bool) :=
  letK s fun day_10l0 =>
  Option.bind (idx t_19 (k0 : Int)) fun (yt_23 : Go.Proofs.YtlljmgphgmklcaaDoor.PIntA3.IntA3) =>
  unIntA3 yt_23 fun (t_23_x0 : Int) (t_23_x1 : Int) (t_23_x2 : Int) =>
  Option.bind (Go.Proofs.YtlljmgphgmklcaaDoor.GiWithin.P day_10l0 t_23_x0 t_23_x1) fun (t_32 : Bool) =>
  iteK t_32
  (letK (IntKind.i64.wrap (t_23_x1 + 1)) fun (t_35 : Int) =>
  appK nx0 (t_35))
  (appK nx0 (day_10l0))

def e0  (s : Int) : Option (Int × Bool) :=
  letK s fun day_10l0 =>
  Option.bind (Go.Proofs.YtlljmgphgmklcaaDoor.GiIsDay.P day_10l0) fun (t_40 : Bool) =>
  letK (!t_40) fun (t_41 : Bool) =>
  iteK t_41
  (some (0, false))
  (some (day_10l0, true))

def P (list : (List Go.Proofs.YtlljmgphgmklcaaDoor.PRate.Rate)) (zone : Int) (grams : Int) (from_3 : Int) : Option (Int × Bool) :=
  Option.bind (Go.Proofs.YtlljmgphgmklcaaDoor.GiCanSend.P list zone grams) fun (t_5 : Bool) =>
  letK (!t_5) fun (t_6 : Bool) =>
  joinK (fun (t_11 : Bool) =>
  iteK t_11
  (some (0, false))
  (Option.bind (Go.Proofs.YtlljmgphgmklcaaDoor.GiSpansOf.P list zone grams) fun (t_19 : (List Go.Proofs.YtlljmgphgmklcaaDoor.PIntA3.IntA3)) =>
  cntK (l0 t_19) (t_19.length) 0 (from_3) (e0 ))) fun jt_11 => iteK t_6 (appK jt_11 true) (Option.bind (Go.Proofs.YtlljmgphgmklcaaDoor.GiIsDay.P from_3) fun (t_9 : Bool) =>
  letK (!t_9) fun (t_10 : Bool) =>
  appK jt_11 t_10)

set_option maxRecDepth 100000 in
set_option maxHeartbeats 2000000 in
theorem C (list : (List Go.Proofs.YtlljmgphgmklcaaDoor.PRate.Rate)) (zone : Int) (grams : Int) (from_3 : Int) (A0 : Option Addr) (c0 : Nat)  (w : World) (M0 : Hid (Cells w 5 A0 list.length (Go.Proofs.YtlljmgphgmklcaaDoor.PRate.flat list))) (N0 : Hid (list.length ≤ 9223372036854775807))  {r0 : Int} {r1 : Bool} (H : Hid (P list zone grams from_3 = some (r0, r1))) :
    Calls Tryd.prog 16 #[.slice A0 list.length c0, .int .i64 zone, .int .i64 grams, .int .i64 from_3] w (Gives (.tuple #[.int .i64 r0, .bool r1]) w) := by
  have HB := Lib.hid (Below.refl w.heap.size w)
  unfold P at H
  have N0o := N0.out
  go_enter Tryd.func16, Tryd.ntmps16
  replace H := bind_hid H
  obtain ⟨t_5, qt_5, H⟩ := H
  go_wp2_with fail
  go_at_call 24
  refine (Go.Proofs.YtlljmgphgmklcaaDoor.GiCanSend.C (list) (zone) (grams) A0 c0 _   (Lib.hid (Cells.below M0.out HB.out)) N0 qt_5).mono ?_
  rintro e_t_5 wt_5 ⟨rfl, bt_5⟩
  have HBwt_5 := Lib.hid (Below.step HB.out bt_5)
  clear bt_5
  cases t_5 with
  | false =>
    replace H := let_hid H
    obtain ⟨t_6, ht_6, H⟩ := H
    obtain rfl : t_6 = true := ht_6.symm
    replace H := join_hid H
    replace H := ite_t H
    replace H := app_hid H
    replace H := ite_t H
    cases ret_hid H
    go_wp2_with fail
    go_ret2
    exact ⟨rfl, HBwt_5.out⟩
  | true =>
    replace H := let_hid H
    obtain ⟨t_6, ht_6, H⟩ := H
    obtain rfl : t_6 = false := ht_6.symm
    replace H := join_hid H
    replace H := ite_f H
    replace H := bind_hid H
    obtain ⟨t_9, qt_9, H⟩ := H
    go_wp2_with fail
    go_at_call 31
    refine (Go.Proofs.YtlljmgphgmklcaaDoor.GiIsDay.C (from_3)  _    qt_9).mono ?_
    rintro e_t_9 wt_9 ⟨rfl, bt_9⟩
    have HBwt_9 := Lib.hid (Below.step HBwt_5.out bt_9)
    clear bt_9
    cases t_9 with
    | false =>
      replace H := let_hid H
      obtain ⟨t_10, ht_10, H⟩ := H
      obtain rfl : t_10 = true := ht_10.symm
      replace H := app_hid H
      replace H := ite_t H
      cases ret_hid H
      go_wp2_with fail
      go_ret2
      exact ⟨rfl, HBwt_9.out⟩
    | true =>
      replace H := let_hid H
      obtain ⟨t_10, ht_10, H⟩ := H
      obtain rfl : t_10 = false := ht_10.symm
      replace H := app_hid H
      replace H := ite_f H
      replace H := bind_hid H
      obtain ⟨t_19, qt_19, H⟩ := H
      go_wp2_with fail
      go_at_call 25
      refine (Go.Proofs.YtlljmgphgmklcaaDoor.GiSpansOf.C (list) (zone) (grams) A0 c0 _   (Lib.hid (Cells.below M0.out HBwt_9.out)) N0 qt_19).mono ?_
      rintro e_t_19 wt_19 ⟨At_19, ct_19, rfl, ot_19, bt_19⟩
      have Ot_19 := Lib.hid (own_lower ot_19 HBwt_9.out.size)
      clear ot_19
      have HBwt_19 := Lib.hid (Below.step HBwt_9.out bt_19)
      clear bt_19
      have hb_0 : t_19.length ≤ 9223372036854775807 := own_max Ot_19.out
      go_wp2_with fail
      go_loopg [29, 10] (t_19.length) (fun m_ v29_ v10_ wr => ∃ (k0 : Nat) (day_10l0 : Int), k0 + m_ = t_19.length ∧ v29_ = .int .i64 (k0 : Int) ∧ v10_ = .int .i64 day_10l0 ∧ Hid (cntK (l0 t_19) m_ k0 (day_10l0) (e0 ) = some (r0, r1)) ∧ Hid (Below w.heap.size w wr) ∧ Hid (wr.ownsRow w.heap.size 34 3 (.slice At_19 t_19.length ct_19) t_19.length (Go.Proofs.YtlljmgphgmklcaaDoor.PIntA3.flat t_19)))
      case atStart => exact ⟨0, _, by omega, rfl, rfl, H, HBwt_19, Ot_19⟩
      case round =>
        obtain ⟨k0, day_10l0, hkm0, rfl, rfl, H, HBwr0, Ot_19⟩ := hrel
        rename World => wr0
        cases gk with
        | zero =>
          obtain rfl : k0 = t_19.length := by omega
          have hc0 : decide (((t_19.length : Nat) : Int) < ((t_19.length : Nat) : Int)) = false := by simp
          replace H := cnt_zero H
          unfold e0 at H
          replace H := let_hid H
          obtain ⟨_, rfl, H⟩ := H
          replace H := bind_hid H
          obtain ⟨t_40, qt_40, H⟩ := H
          go_wp2_with fail
          go_at_call 31
          refine (Go.Proofs.YtlljmgphgmklcaaDoor.GiIsDay.C (day_10l0)  _    qt_40).mono ?_
          rintro e_t_40 wt_40 ⟨rfl, bt_40⟩
          have HBwt_40 := Lib.hid (Below.step HBwr0.out bt_40)
          replace Ot_19 := Lib.hid (own_below Ot_19.out bt_40)
          clear bt_40
          cases t_40 with
          | false =>
            replace H := let_hid H
            obtain ⟨t_41, ht_41, H⟩ := H
            obtain rfl : t_41 = true := ht_41.symm
            replace H := ite_t H
            cases ret_hid H
            go_wp2_with fail
            go_ret2
            exact ⟨rfl, HBwt_40.out⟩
          | true =>
            replace H := let_hid H
            obtain ⟨t_41, ht_41, H⟩ := H
            obtain rfl : t_41 = false := ht_41.symm
            replace H := ite_f H
            cases ret_hid H
            go_wp2_with fail
            go_ret2
            exact ⟨rfl, HBwt_40.out⟩
        | succ m0 =>
          have hlt0 : k0 < t_19.length := by omega
          have hc0 : decide ((k0 : Int) < ((t_19.length : Nat) : Int)) = true := by simp; omega
          replace H := cnt_succ H
          unfold l0 at H
          replace H := let_hid H
          obtain ⟨_, rfl, H⟩ := H
          replace H := idx_hid H
          obtain ⟨nt_23, yt_23, et_23, lt_23, gt_23, H⟩ := H
          obtain rfl : k0 = nt_23 := by omega
          clear et_23
          obtain ⟨t_23_x0, t_23_x1, t_23_x2⟩ := yt_23
          replace H := unIntA3_hid H
          obtain ⟨qt_23, Qt_23⟩ := own_some Ot_19.out (by omega)
          subst Qt_23
          obtain ⟨ab_t_23, ao_t_23, zt_23, At_23, z_t_23, ct_23_0, ct_23_1, ct_23_2⟩ := Go.Proofs.YtlljmgphgmklcaaDoor.OIntA3.at_ (own_cells Ot_19.out) (k := k0) (by omega)
          obtain rfl := Option.some.inj (gt_23.out.symm.trans z_t_23)
          simp only [Option.some.injEq, Addr.mk.injEq] at At_23
          obtain ⟨rfl, rfl, _⟩ := At_23
          clear z_t_23
          simp only [Nat.zero_add] at ct_23_0 ct_23_1 ct_23_2
          have b0t_23 : (0 : Int) ≤ (k0 : Int) := by omega
          have b1t_23 : (k0 : Int) < ((t_19.length : Nat) : Int) := by omega
          have b2t_23 : ((k0 : Int)).toNat = k0 := by omega
          obtain ⟨w_span_25, hw_span_25⟩ : ∃ x, wr0.alloc (.cells #[.int .i64 t_23_x0, .int .i64 t_23_x1, .int .i64 t_23_x2] 34) = x := ⟨_, rfl⟩
          have bw_span_25 : Below wr0.heap.size wr0 w_span_25 := by rw [← hw_span_25]; exact (Below.refl _ _).alloc (Nat.le_refl _) _
          have Dspan_25_t_19 := Lib.hid (apart_fresh Ot_19.out)
          have HBw_span_25 := Lib.hid (Below.step HBwr0.out bw_span_25)
          have ct_23_0__184 := cell_below bw_span_25 ct_23_0
          have ct_23_1__185 := cell_below bw_span_25 ct_23_1
          have ct_23_2__186 := cell_below bw_span_25 ct_23_2
          replace Ot_19 := Lib.hid (own_below Ot_19.out bw_span_25)
          clear bw_span_25
          have kspan_25_0 : w_span_25.cell? ⟨wr0.heap.size, 0, none⟩ = some (.int .i64 t_23_x0) := by rw [← hw_span_25]; exact box_new _ _ _ 0 _ rfl
          have kspan_25_1 : w_span_25.cell? ⟨wr0.heap.size, 1, none⟩ = some (.int .i64 t_23_x1) := by rw [← hw_span_25]; exact box_new _ _ _ 1 _ rfl
          have kspan_25_2 : w_span_25.cell? ⟨wr0.heap.size, 2, none⟩ = some (.int .i64 t_23_x2) := by rw [← hw_span_25]; exact box_new _ _ _ 2 _ rfl
          replace H := bind_hid H
          obtain ⟨t_32, qt_32, H⟩ := H
          go_wp2_with fail
          clear ct_23_0 ct_23_1 ct_23_2
          go_at_call 37
          refine (Go.Proofs.YtlljmgphgmklcaaDoor.GiWithin.C (day_10l0) (t_23_x0) (t_23_x1)  _    qt_32).mono ?_
          rintro e_t_32 wt_32 ⟨rfl, bt_32⟩
          have HBwt_32 := Lib.hid (Below.step HBw_span_25.out bt_32)
          replace ct_23_0__184 := cell_below bt_32 ct_23_0__184
          replace ct_23_1__185 := cell_below bt_32 ct_23_1__185
          replace ct_23_2__186 := cell_below bt_32 ct_23_2__186
          replace kspan_25_0 := cell_below bt_32 kspan_25_0
          replace kspan_25_1 := cell_below bt_32 kspan_25_1
          replace kspan_25_2 := cell_below bt_32 kspan_25_2
          replace Ot_19 := Lib.hid (own_below Ot_19.out bt_32)
          clear bt_32
          cases t_32 with
          | false =>
            replace H := ite_f H
            replace H := app_hid H
            go_wp2_with fail
            go_roundg m0
            case measure => omega
            case rel => exact ⟨k0 + 1, _, by omega, by go_num, rfl, H, HBwt_32, Ot_19⟩
          | true =>
            replace H := ite_t H
            replace H := let_hid H
            obtain ⟨t_35, ht_35, H⟩ := H
            replace H := app_hid H
            go_wp2_with fail
            go_roundg m0
            case measure => omega
            case rel => exact ⟨k0 + 1, _, by omega, by go_num, rfl, H, HBwt_32, Ot_19⟩
end Go.Proofs.YtlljmgphgmklcaaDoor.GiFirstWithout

/- loop.example/g01062/spec.FirstWithout as a plain function, and the contract of the program's: where the plain one has an answer, the program has it. Conditions: slices read as lists. -/
namespace Go.Proofs.YtlljmgphgmklcaaDoor.GsFirstWithout
set_option linter.unusedVariables false
set_option linter.unusedSimpArgs false
open Go.RowKit
open Go.Proofs.YtlljmgphgmklcaaDoor.Rowed Go.Proofs.YtlljmgphgmklcaaDoor.Turn Go.Proofs.YtlljmgphgmklcaaDoor.Aid Go.Proofs.YtlljmgphgmklcaaDoor.GoP Go.Proofs.YtlljmgphgmklcaaDoor.GoM

def l0 (list : (List Go.Proofs.YtlljmgphgmklcaaDoor.PRate.Rate)) (zone : Int) (grams : Int) (s : Int) (nx0 bk0 : Int → Option (Int × Bool)) : Option (Int × Bool) :=
  letK s fun day_10l0 =>
  letK (decide (day_10l0 ≤ 4000)) fun (t_25 : Bool) =>
  iteK t_25
  (Option.bind (Go.Proofs.YtlljmgphgmklcaaDoor.GsL8For.P list day_10l0 zone grams) fun (t_30 : Int) =>
  letK (t_30 == 0) fun (t_31 : Bool) =>
  iteK t_31
  (some (day_10l0, true))
  (letK (IntKind.i64.wrap (day_10l0 + 1)) fun (t_36 : Int) =>
  appK nx0 (t_36)))
  (appK bk0 (day_10l0))

def e0  (s : Int) : Option (Int × Bool) :=
  letK s fun day_10l0 =>
  some (0, false)

def P (fuel : Nat) (list : (List Go.Proofs.YtlljmgphgmklcaaDoor.PRate.Rate)) (zone : Int) (grams : Int) (from_3 : Int) : Option (Int × Bool) :=
  Option.bind (Go.Proofs.YtlljmgphgmklcaaDoor.GsL8Good.P fuel list) fun (t_3 : Bool) =>
  letK (!t_3) fun (t_4 : Bool) =>
  joinK (fun (t_9 : Bool) =>
  joinK (fun (t_14 : Bool) =>
  joinK (fun (t_19 : Bool) =>
  iteK t_19
  (some (0, false))
  (loopK (l0 list zone grams) fuel (from_3) (e0 ))) fun jt_19 => iteK t_14 (appK jt_19 true) (Option.bind (Go.Proofs.YtlljmgphgmklcaaDoor.GsL2Day.P from_3) fun (t_17 : Bool) =>
  letK (!t_17) fun (t_18 : Bool) =>
  appK jt_19 t_18)) fun jt_14 => iteK t_9 (appK jt_14 true) (Option.bind (Go.Proofs.YtlljmgphgmklcaaDoor.GsL8Grams.P grams) fun (t_12 : Bool) =>
  letK (!t_12) fun (t_13 : Bool) =>
  appK jt_14 t_13)) fun jt_9 => iteK t_4 (appK jt_9 true) (Option.bind (Go.Proofs.YtlljmgphgmklcaaDoor.GsL8Zone.P zone) fun (t_7 : Bool) =>
  letK (!t_7) fun (t_8 : Bool) =>
  appK jt_9 t_8)

set_option maxRecDepth 100000 in
set_option maxHeartbeats 2000000 in
theorem C (fuel : Nat) (list : (List Go.Proofs.YtlljmgphgmklcaaDoor.PRate.Rate)) (zone : Int) (grams : Int) (from_3 : Int) (A0 : Option Addr) (c0 : Nat)  (w : World) (M0 : Hid (Cells w 5 A0 list.length (Go.Proofs.YtlljmgphgmklcaaDoor.PRate.flat list))) (N0 : Hid (list.length ≤ 9223372036854775807))  {r0 : Int} {r1 : Bool} (H : Hid (P fuel list zone grams from_3 = some (r0, r1))) :
    Calls Tryd.prog 17 #[.slice A0 list.length c0, .int .i64 zone, .int .i64 grams, .int .i64 from_3] w (Gives (.tuple #[.int .i64 r0, .bool r1]) w) := by
  have HB := Lib.hid (Below.refl w.heap.size w)
  unfold P at H
  have N0o := N0.out
  go_enter Tryd.func17, Tryd.ntmps17
  replace H := bind_hid H
  obtain ⟨t_3, qt_3, H⟩ := H
  go_wp2_with fail
  go_at_call 26
  refine (Go.Proofs.YtlljmgphgmklcaaDoor.GsL8Good.C fuel (list) A0 c0 _   (Lib.hid (Cells.below M0.out HB.out)) N0 qt_3).mono ?_
  rintro e_t_3 wt_3 ⟨rfl, bt_3⟩
  have HBwt_3 := Lib.hid (Below.step HB.out bt_3)
  clear bt_3
  cases t_3 with
  | false =>
    replace H := let_hid H
    obtain ⟨t_4, ht_4, H⟩ := H
    obtain rfl : t_4 = true := ht_4.symm
    replace H := join_hid H
    replace H := ite_t H
    replace H := app_hid H
    replace H := join_hid H
    replace H := ite_t H
    replace H := app_hid H
    replace H := join_hid H
    replace H := ite_t H
    replace H := app_hid H
    replace H := ite_t H
    cases ret_hid H
    go_wp2_with fail
    go_ret2
    exact ⟨rfl, HBwt_3.out⟩
  | true =>
    replace H := let_hid H
    obtain ⟨t_4, ht_4, H⟩ := H
    obtain rfl : t_4 = false := ht_4.symm
    replace H := join_hid H
    replace H := ite_f H
    replace H := bind_hid H
    obtain ⟨t_7, qt_7, H⟩ := H
    go_wp2_with fail
    go_at_call 27
    refine (Go.Proofs.YtlljmgphgmklcaaDoor.GsL8Zone.C (zone)  _    qt_7).mono ?_
    rintro e_t_7 wt_7 ⟨rfl, bt_7⟩
    have HBwt_7 := Lib.hid (Below.step HBwt_3.out bt_7)
    clear bt_7
    cases t_7 with
    | false =>
      replace H := let_hid H
      obtain ⟨t_8, ht_8, H⟩ := H
      obtain rfl : t_8 = true := ht_8.symm
      replace H := app_hid H
      replace H := join_hid H
      replace H := ite_t H
      replace H := app_hid H
      replace H := join_hid H
      replace H := ite_t H
      replace H := app_hid H
      replace H := ite_t H
      cases ret_hid H
      go_wp2_with fail
      go_ret2
      exact ⟨rfl, HBwt_7.out⟩
    | true =>
      replace H := let_hid H
      obtain ⟨t_8, ht_8, H⟩ := H
      obtain rfl : t_8 = false := ht_8.symm
      replace H := app_hid H
      replace H := join_hid H
      replace H := ite_f H
      replace H := bind_hid H
      obtain ⟨t_12, qt_12, H⟩ := H
      go_wp2_with fail
      go_at_call 28
      refine (Go.Proofs.YtlljmgphgmklcaaDoor.GsL8Grams.C (grams)  _    qt_12).mono ?_
      rintro e_t_12 wt_12 ⟨rfl, bt_12⟩
      have HBwt_12 := Lib.hid (Below.step HBwt_7.out bt_12)
      clear bt_12
      cases t_12 with
      | false =>
        replace H := let_hid H
        obtain ⟨t_13, ht_13, H⟩ := H
        obtain rfl : t_13 = true := ht_13.symm
        replace H := app_hid H
        replace H := join_hid H
        replace H := ite_t H
        replace H := app_hid H
        replace H := ite_t H
        cases ret_hid H
        go_wp2_with fail
        go_ret2
        exact ⟨rfl, HBwt_12.out⟩
      | true =>
        replace H := let_hid H
        obtain ⟨t_13, ht_13, H⟩ := H
        obtain rfl : t_13 = false := ht_13.symm
        replace H := app_hid H
        replace H := join_hid H
        replace H := ite_f H
        replace H := bind_hid H
        obtain ⟨t_17, qt_17, H⟩ := H
        go_wp2_with fail
        go_at_call 34
        refine (Go.Proofs.YtlljmgphgmklcaaDoor.GsL2Day.C (from_3)  _    qt_17).mono ?_
        rintro e_t_17 wt_17 ⟨rfl, bt_17⟩
        have HBwt_17 := Lib.hid (Below.step HBwt_12.out bt_17)
        clear bt_17
        cases t_17 with
        | false =>
          replace H := let_hid H
          obtain ⟨t_18, ht_18, H⟩ := H
          obtain rfl : t_18 = true := ht_18.symm
          replace H := app_hid H
          replace H := ite_t H
          cases ret_hid H
          go_wp2_with fail
          go_ret2
          exact ⟨rfl, HBwt_17.out⟩
        | true =>
          replace H := let_hid H
          obtain ⟨t_18, ht_18, H⟩ := H
          obtain rfl : t_18 = false := ht_18.symm
          replace H := app_hid H
          replace H := ite_f H
          go_wp2_with fail
          go_loopg [10] (fuel) (fun m_ v10_ wr => ∃ (day_10l0 : Int), v10_ = .int .i64 day_10l0 ∧ Hid (loopK (l0 list zone grams) m_ (day_10l0) (e0 ) = some (r0, r1)) ∧ Hid (Below w.heap.size w wr))
          case atStart => exact ⟨_, rfl, H, HBwt_17⟩
          case round =>
            obtain ⟨day_10l0, rfl, H, HBwr0⟩ := hrel
            rename World => wr0
            cases gk with
            | zero => exact (loop_zero H).elim
            | succ m0 =>
              replace H := loop_succ H
              unfold l0 at H
              replace H := let_hid H
              obtain ⟨_, rfl, H⟩ := H
              replace H := let_hid H
              obtain ⟨t_25, ht_25, H⟩ := H
              cases t_25 with
              | false =>
                replace H := ite_f H
                replace H := app_hid H
                unfold e0 at H
                replace H := let_hid H
                obtain ⟨_, rfl, H⟩ := H
                cases ret_hid H
                go_wp2_with fail
                go_ret2
                exact ⟨rfl, HBwr0.out⟩
              | true =>
                replace H := ite_t H
                replace H := bind_hid H
                obtain ⟨t_30, qt_30, H⟩ := H
                go_wp2_with fail
                go_at_call 29
                refine (Go.Proofs.YtlljmgphgmklcaaDoor.GsL8For.C (list) (day_10l0) (zone) (grams) A0 c0 _   (Lib.hid (Cells.below M0.out HBwr0.out)) N0 qt_30).mono ?_
                rintro e_t_30 wt_30 ⟨rfl, bt_30⟩
                have HBwt_30 := Lib.hid (Below.step HBwr0.out bt_30)
                clear bt_30
                replace H := let_hid H
                obtain ⟨t_31, ht_31, H⟩ := H
                cases t_31 with
                | false =>
                  replace H := ite_f H
                  replace H := let_hid H
                  obtain ⟨t_36, ht_36, H⟩ := H
                  replace H := app_hid H
                  go_wp2_with fail
                  go_roundg m0
                  case measure => omega
                  case rel => exact ⟨_, rfl, H, HBwt_30⟩
                | true =>
                  replace H := ite_t H
                  cases ret_hid H
                  go_wp2_with fail
                  go_ret2
                  exact ⟨rfl, HBwt_30.out⟩
end Go.Proofs.YtlljmgphgmklcaaDoor.GsFirstWithout

/- loop.example/g01062/spec.DrawIsRate as a plain function, and the contract of the program's: where the plain one has an answer, the program has it. Conditions: slices read as lists. -/
namespace Go.Proofs.YtlljmgphgmklcaaDoor.GsDrawIsRate
set_option linter.unusedVariables false
set_option linter.unusedSimpArgs false
open Go.RowKit
open Go.Proofs.YtlljmgphgmklcaaDoor.Rowed Go.Proofs.YtlljmgphgmklcaaDoor.Turn Go.Proofs.YtlljmgphgmklcaaDoor.Aid Go.Proofs.YtlljmgphgmklcaaDoor.GoP Go.Proofs.YtlljmgphgmklcaaDoor.GoM

def P (tapes : List Int → Go.Proofs.YtlljmgphgmklcaaDoor.GoC.Tape) (code : (List Int)) : Option (Go.Proofs.YtlljmgphgmklcaaDoor.PRate.Rate) :=
  letK (tapes code) fun (t_3 : Go.Proofs.YtlljmgphgmklcaaDoor.GoC.Tape) =>
  letK ([0, 9, (-1), 10]) fun (t_7 : (List Int)) =>
  bind2 (Go.Proofs.YtlljmgphgmklcaaDoor.GsL1CurAmong.P t_3 t_7) fun (t_8 : Int) (t_8_tp : Go.Proofs.YtlljmgphgmklcaaDoor.GoC.Tape) =>
  letK ([1, 20, 2000, 0, 2001]) fun (t_10 : (List Int)) =>
  bind2 (Go.Proofs.YtlljmgphgmklcaaDoor.GsL1CurAmong.P t_8_tp t_10) fun (t_11 : Int) (t_11_tp : Go.Proofs.YtlljmgphgmklcaaDoor.GoC.Tape) =>
  letK ([0, 7, 3995, (-1)]) fun (t_13 : (List Int)) =>
  bind2 (Go.Proofs.YtlljmgphgmklcaaDoor.GsL1CurAmong.P t_11_tp t_13) fun (t_14 : Int) (t_14_tp : Go.Proofs.YtlljmgphgmklcaaDoor.GoC.Tape) =>
  bind2 (Go.Proofs.YtlljmgphgmklcaaDoor.GsL1CurRate.P t_14_tp t_8 t_11 t_14) fun (t_15 : Go.Proofs.YtlljmgphgmklcaaDoor.PRate.Rate) (t_15_tp : Go.Proofs.YtlljmgphgmklcaaDoor.GoC.Tape) =>
  unRate t_15 fun (t_15_zone : Int) (t_15_grams : Int) (t_15_from_ : Int) (t_15_until_ : Int) (t_15_cents : Int) =>
  some (Go.Proofs.YtlljmgphgmklcaaDoor.PRate.Rate.mk t_15_zone t_15_grams t_15_from_ t_15_until_ t_15_cents)

set_option maxRecDepth 100000 in
set_option maxHeartbeats 2000000 in
theorem C (tapes : List Int → Go.Proofs.YtlljmgphgmklcaaDoor.GoC.Tape) (code : (List Int)) (A0 : Option Addr) (c0 : Nat)  (w : World) (HE : Hid (Go.Proofs.YtlljmgphgmklcaaDoor.GoC.Tells tapes)) (M0 : Hid (Cells w 1 A0 code.length (Go.Proofs.YtlljmgphgmklcaaDoor.GoC.u8s code))) (N0 : Hid (code.length ≤ 9223372036854775807)) (V0 : Hid (∀ z ∈ code, 0 ≤ z ∧ z ≤ 255))  {r : Go.Proofs.YtlljmgphgmklcaaDoor.PRate.Rate} (H : Hid (P tapes code = some r)) :
    Calls Tryd.prog 38 #[.slice A0 code.length c0] w (Gives ((Go.Proofs.YtlljmgphgmklcaaDoor.PRate.Rate.val r)) w) := by
  have HB := Lib.hid (Below.refl w.heap.size w)
  unfold P at H
  have N0o := N0.out
  go_enter Tryd.func38, Tryd.ntmps38
  obtain ⟨w_t_0, hw_t_0⟩ : ∃ x, w.alloc (.cells #[.int .i64 0, .int .i64 0, .int .i64 0, .int .i64 0, .int .i64 0] 38) = x := ⟨_, rfl⟩
  have bw_t_0 : Below w.heap.size w w_t_0 := by rw [← hw_t_0]; exact (Below.refl _ _).alloc (Nat.le_refl _) _
  have HBw_t_0 := Lib.hid (Below.step HB.out bw_t_0)
  clear bw_t_0
  have kt_0_0 : w_t_0.cell? ⟨w.heap.size, 0, none⟩ = some (.int .i64 0) := by rw [← hw_t_0]; exact box_new _ _ _ 0 _ rfl
  have kt_0_1 : w_t_0.cell? ⟨w.heap.size, 1, none⟩ = some (.int .i64 0) := by rw [← hw_t_0]; exact box_new _ _ _ 1 _ rfl
  have kt_0_2 : w_t_0.cell? ⟨w.heap.size, 2, none⟩ = some (.int .i64 0) := by rw [← hw_t_0]; exact box_new _ _ _ 2 _ rfl
  have kt_0_3 : w_t_0.cell? ⟨w.heap.size, 3, none⟩ = some (.int .i64 0) := by rw [← hw_t_0]; exact box_new _ _ _ 3 _ rfl
  have kt_0_4 : w_t_0.cell? ⟨w.heap.size, 4, none⟩ = some (.int .i64 0) := by rw [← hw_t_0]; exact box_new _ _ _ 4 _ rfl
  have Ot_0 : Hid (w_t_0.ownsRow w.heap.size 38 5 (.slice (some ⟨w.heap.size, 0, none⟩) 1 1) 1 [.int .i64 0, .int .i64 0, .int .i64 0, .int .i64 0, .int .i64 0]) := Lib.hid (by rw [← hw_t_0]; exact own_laid (n := 1) HB.out.size rfl rfl (by unfold maxLen; omega))
  replace H := let_hid H
  obtain ⟨t_3, ht_3, H⟩ := H
  obtain ⟨w_t_3, hw_t_3⟩ : ∃ x, w_t_0.alloc (.cells #[.slice A0 code.length c0, .int .i64 0, .int .u64 0] 46) = x := ⟨_, rfl⟩
  have bw_t_3 : Below w_t_0.heap.size w_t_0 w_t_3 := by rw [← hw_t_3]; exact (Below.refl _ _).alloc (Nat.le_refl _) _
  have Kt_3 : Hid (Go.Proofs.YtlljmgphgmklcaaDoor.GoC.CurIs w_t_3 w.heap.size w_t_0.heap.size A0 c0 t_3) := Lib.hid (by rw [← hw_t_3, ← ht_3]; exact Go.Proofs.YtlljmgphgmklcaaDoor.GoC.cur_new HBw_t_0.out.size (Cells.below M0.out HBw_t_0.out) (fun a_ ha_ h0_ => by subst ha_; exact Go.Proofs.YtlljmgphgmklcaaDoor.GoC.cells_lt M0.out (by unfold Go.Proofs.YtlljmgphgmklcaaDoor.GoC.u8s; rw [List.length_map]; exact h0_)) (HE.out.2.2 code V0.out N0.out))
  have hht_3 := Lib.hid ht_3
  clear ht_3
  have Dt_3_t_0 := Lib.hid (apart_box kt_0_0)
  have HBw_t_3 := Lib.hid (Below.step HBw_t_0.out bw_t_3)
  have kt_0_0__187 := cell_below bw_t_3 kt_0_0
  have kt_0_1__188 := cell_below bw_t_3 kt_0_1
  have kt_0_2__189 := cell_below bw_t_3 kt_0_2
  have kt_0_3__190 := cell_below bw_t_3 kt_0_3
  have kt_0_4__191 := cell_below bw_t_3 kt_0_4
  replace Ot_0 := Lib.hid (own_below Ot_0.out bw_t_3)
  clear bw_t_3
  replace H := let_hid H
  obtain ⟨t_7, ht_7, H⟩ := H
  obtain ⟨w_t_7, hw_t_7⟩ : ∃ x, w_t_3.alloc (.cells #[.int .i64 0, .int .i64 9, .int .i64 (-1), .int .i64 10] 3) = x := ⟨_, rfl⟩
  have bw_t_7 : Below w_t_3.heap.size w_t_3 w_t_7 := by rw [← hw_t_7]; exact (Below.refl _ _).alloc (Nat.le_refl _) _
  have hs_t_7 := HBw_t_3.out.size
  have nt_7 : t_7.length = 4 := by rw [← ht_7]; rfl
  have Ot_7 : Hid (w_t_7.ownsRow w.heap.size 3 1 (.slice (some ⟨w_t_3.heap.size, 0, none⟩) 4 4) 4 (Go.Proofs.YtlljmgphgmklcaaDoor.HelpInt.iv t_7)) := by
    rw [← hw_t_7, ← ht_7]
    have e_ : ([.int .i64 0, .int .i64 9, .int .i64 (-1), .int .i64 10] : List Value) = (Go.Proofs.YtlljmgphgmklcaaDoor.HelpInt.iv ([0, 9, (-1), 10] : List Int)) := rfl
    exact Lib.hid (own_laid (n := 4) hs_t_7 e_ rfl (by unfold maxLen; omega))
  clear hs_t_7
  have hht_7 := Lib.hid ht_7
  clear ht_7
  replace nt_7 := Lib.hid nt_7
  have Dt_7_t_3 := Lib.hid (Go.Proofs.YtlljmgphgmklcaaDoor.GoC.apart_cur Kt_3.out)
  have Dt_7_t_0 := Lib.hid (apart_box kt_0_0__187)
  have HBw_t_7 := Lib.hid (Below.step HBw_t_3.out bw_t_7)
  have kt_0_0__192 := cell_below bw_t_7 kt_0_0__187
  have kt_0_1__193 := cell_below bw_t_7 kt_0_1__188
  have kt_0_2__194 := cell_below bw_t_7 kt_0_2__189
  have kt_0_3__195 := cell_below bw_t_7 kt_0_3__190
  have kt_0_4__196 := cell_below bw_t_7 kt_0_4__191
  replace Kt_3 := Lib.hid (Go.Proofs.YtlljmgphgmklcaaDoor.GoC.cur_below Kt_3.out bw_t_7)
  replace Ot_0 := Lib.hid (own_below Ot_0.out bw_t_7)
  clear bw_t_7
  replace H := bind2_hid H
  obtain ⟨t_8, t_8_tp, qt_8, H⟩ := H
  go_wp2_with fail
  clear kt_0_0 kt_0_1 kt_0_2 kt_0_3 kt_0_4 kt_0_0__187 kt_0_1__188 kt_0_2__189 kt_0_3__190 kt_0_4__191
  have hc_ := nt_7.out
  have hv_ : (Value.slice (some ⟨w_t_3.heap.size, 0, none⟩) 4 4 : Value) = Value.slice (some ⟨w_t_3.heap.size, 0, none⟩) t_7.length 4 := by rw [hc_]
  try rw [hv_]
  replace Ot_7 := Lib.hid (own_len hc_ Ot_7.out)
  clear hc_ hv_
  go_wp2_with fail
  go_at_call 23
  refine (Go.Proofs.YtlljmgphgmklcaaDoor.GsL1CurAmong.C (t_3) (t_7) (some ⟨w_t_3.heap.size, 0, none⟩) 4 (w_t_0.heap.size) (A0) (c0) (w.heap.size) _   (Lib.hid (own_cells Ot_7.out)) (Lib.hid (own_max Ot_7.out)) Kt_3 (Lib.hid (fun _ => Dt_7_t_3.out)) qt_8).mono ?_
  rintro e_t_8 wt_8 ⟨rfl, kt_8, gt_8⟩
  have Kt_8 := Lib.hid kt_8
  have Gt_8 : Hid (w_t_7.grownBy wt_8 (Value.slice (some ⟨w_t_0.heap.size, 0, none⟩) 1 1).ownBlock) := Lib.hid gt_8
  clear kt_8 gt_8
  have HBwt_8 := Lib.hid (Go.Proofs.YtlljmgphgmklcaaDoor.GoC.below_cur HBw_t_7.out Gt_8.out HBw_t_7.out.size (Go.Proofs.YtlljmgphgmklcaaDoor.GoC.cur_lt Kt_3.out).1)
  replace kt_0_0__192 := cell_other kt_0_0__192 Gt_8.out Dt_3_t_0.out
  replace kt_0_1__193 := cell_other kt_0_1__193 Gt_8.out Dt_3_t_0.out
  replace kt_0_2__194 := cell_other kt_0_2__194 Gt_8.out Dt_3_t_0.out
  replace kt_0_3__195 := cell_other kt_0_3__195 Gt_8.out Dt_3_t_0.out
  replace kt_0_4__196 := cell_other kt_0_4__196 Gt_8.out Dt_3_t_0.out
  replace Ot_0 := Lib.hid (own_other Ot_0.out Gt_8.out Dt_3_t_0.out)
  replace Ot_7 := Lib.hid (own_other Ot_7.out Gt_8.out (Apart.symm Dt_7_t_3.out))
  clear Kt_3 Gt_8
  replace H := let_hid H
  obtain ⟨t_10, ht_10, H⟩ := H
  obtain ⟨w_t_10, hw_t_10⟩ : ∃ x, wt_8.alloc (.cells #[.int .i64 1, .int .i64 20, .int .i64 2000, .int .i64 0, .int .i64 2001] 3) = x := ⟨_, rfl⟩
  have bw_t_10 : Below wt_8.heap.size wt_8 w_t_10 := by rw [← hw_t_10]; exact (Below.refl _ _).alloc (Nat.le_refl _) _
  have hs_t_10 := HBwt_8.out.size
  have nt_10 : t_10.length = 5 := by rw [← ht_10]; rfl
  have Ot_10 : Hid (w_t_10.ownsRow w.heap.size 3 1 (.slice (some ⟨wt_8.heap.size, 0, none⟩) 5 5) 5 (Go.Proofs.YtlljmgphgmklcaaDoor.HelpInt.iv t_10)) := by
    rw [← hw_t_10, ← ht_10]
    have e_ : ([.int .i64 1, .int .i64 20, .int .i64 2000, .int .i64 0, .int .i64 2001] : List Value) = (Go.Proofs.YtlljmgphgmklcaaDoor.HelpInt.iv ([1, 20, 2000, 0, 2001] : List Int)) := rfl
    exact Lib.hid (own_laid (n := 5) hs_t_10 e_ rfl (by unfold maxLen; omega))
  clear hs_t_10
  have hht_10 := Lib.hid ht_10
  clear ht_10
  replace nt_10 := Lib.hid nt_10
  have Dt_10_t_7 := Lib.hid (apart_fresh Ot_7.out)
  have Dt_10_t_3 := Lib.hid (Go.Proofs.YtlljmgphgmklcaaDoor.GoC.apart_cur Kt_8.out)
  have Dt_10_t_0 := Lib.hid (apart_box kt_0_0__192)
  have HBw_t_10 := Lib.hid (Below.step HBwt_8.out bw_t_10)
  have kt_0_0__197 := cell_below bw_t_10 kt_0_0__192
  have kt_0_1__198 := cell_below bw_t_10 kt_0_1__193
  have kt_0_2__199 := cell_below bw_t_10 kt_0_2__194
  have kt_0_3__200 := cell_below bw_t_10 kt_0_3__195
  have kt_0_4__201 := cell_below bw_t_10 kt_0_4__196
  replace Ot_7 := Lib.hid (own_below Ot_7.out bw_t_10)
  replace Kt_8 := Lib.hid (Go.Proofs.YtlljmgphgmklcaaDoor.GoC.cur_below Kt_8.out bw_t_10)
  replace Ot_0 := Lib.hid (own_below Ot_0.out bw_t_10)
  clear bw_t_10
  replace H := bind2_hid H
  obtain ⟨t_11, t_11_tp, qt_11, H⟩ := H
  go_wp2_with fail
  clear kt_0_0__192 kt_0_1__193 kt_0_2__194 kt_0_3__195 kt_0_4__196
  have hc_ := nt_10.out
  have hv_ : (Value.slice (some ⟨wt_8.heap.size, 0, none⟩) 5 5 : Value) = Value.slice (some ⟨wt_8.heap.size, 0, none⟩) t_10.length 5 := by rw [hc_]
  try rw [hv_]
  replace Ot_10 := Lib.hid (own_len hc_ Ot_10.out)
  clear hc_ hv_
  go_wp2_with fail
  go_at_call 23
  refine (Go.Proofs.YtlljmgphgmklcaaDoor.GsL1CurAmong.C (t_8_tp) (t_10) (some ⟨wt_8.heap.size, 0, none⟩) 5 (w_t_0.heap.size) (A0) (c0) (w.heap.size) _   (Lib.hid (own_cells Ot_10.out)) (Lib.hid (own_max Ot_10.out)) Kt_8 (Lib.hid (fun _ => Dt_10_t_3.out)) qt_11).mono ?_
  rintro e_t_11 wt_11 ⟨rfl, kt_11, gt_11⟩
  have Kt_11 := Lib.hid kt_11
  have Gt_11 : Hid (w_t_10.grownBy wt_11 (Value.slice (some ⟨w_t_0.heap.size, 0, none⟩) 1 1).ownBlock) := Lib.hid gt_11
  clear kt_11 gt_11
  have HBwt_11 := Lib.hid (Go.Proofs.YtlljmgphgmklcaaDoor.GoC.below_cur HBw_t_10.out Gt_11.out HBw_t_10.out.size (Go.Proofs.YtlljmgphgmklcaaDoor.GoC.cur_lt Kt_8.out).1)
  replace kt_0_0__197 := cell_other kt_0_0__197 Gt_11.out Dt_3_t_0.out
  replace kt_0_1__198 := cell_other kt_0_1__198 Gt_11.out Dt_3_t_0.out
  replace kt_0_2__199 := cell_other kt_0_2__199 Gt_11.out Dt_3_t_0.out
  replace kt_0_3__200 := cell_other kt_0_3__200 Gt_11.out Dt_3_t_0.out
  replace kt_0_4__201 := cell_other kt_0_4__201 Gt_11.out Dt_3_t_0.out
  replace Ot_0 := Lib.hid (own_other Ot_0.out Gt_11.out Dt_3_t_0.out)
  replace Ot_7 := Lib.hid (own_other Ot_7.out Gt_11.out (Apart.symm Dt_7_t_3.out))
  replace Ot_10 := Lib.hid (own_other Ot_10.out Gt_11.out (Apart.symm Dt_10_t_3.out))
  clear Kt_8 Gt_11
  replace H := let_hid H
  obtain ⟨t_13, ht_13, H⟩ := H
  obtain ⟨w_t_13, hw_t_13⟩ : ∃ x, wt_11.alloc (.cells #[.int .i64 0, .int .i64 7, .int .i64 3995, .int .i64 (-1)] 3) = x := ⟨_, rfl⟩
  have bw_t_13 : Below wt_11.heap.size wt_11 w_t_13 := by rw [← hw_t_13]; exact (Below.refl _ _).alloc (Nat.le_refl _) _
  have hs_t_13 := HBwt_11.out.size
  have nt_13 : t_13.length = 4 := by rw [← ht_13]; rfl
  have Ot_13 : Hid (w_t_13.ownsRow w.heap.size 3 1 (.slice (some ⟨wt_11.heap.size, 0, none⟩) 4 4) 4 (Go.Proofs.YtlljmgphgmklcaaDoor.HelpInt.iv t_13)) := by
    rw [← hw_t_13, ← ht_13]
    have e_ : ([.int .i64 0, .int .i64 7, .int .i64 3995, .int .i64 (-1)] : List Value) = (Go.Proofs.YtlljmgphgmklcaaDoor.HelpInt.iv ([0, 7, 3995, (-1)] : List Int)) := rfl
    exact Lib.hid (own_laid (n := 4) hs_t_13 e_ rfl (by unfold maxLen; omega))
  clear hs_t_13
  have hht_13 := Lib.hid ht_13
  clear ht_13
  replace nt_13 := Lib.hid nt_13
  have Dt_13_t_7 := Lib.hid (apart_fresh Ot_7.out)
  have Dt_13_t_10 := Lib.hid (apart_fresh Ot_10.out)
  have Dt_13_t_3 := Lib.hid (Go.Proofs.YtlljmgphgmklcaaDoor.GoC.apart_cur Kt_11.out)
  have Dt_13_t_0 := Lib.hid (apart_box kt_0_0__197)
  have HBw_t_13 := Lib.hid (Below.step HBwt_11.out bw_t_13)
  have kt_0_0__202 := cell_below bw_t_13 kt_0_0__197
  have kt_0_1__203 := cell_below bw_t_13 kt_0_1__198
  have kt_0_2__204 := cell_below bw_t_13 kt_0_2__199
  have kt_0_3__205 := cell_below bw_t_13 kt_0_3__200
  have kt_0_4__206 := cell_below bw_t_13 kt_0_4__201
  replace Ot_7 := Lib.hid (own_below Ot_7.out bw_t_13)
  replace Ot_10 := Lib.hid (own_below Ot_10.out bw_t_13)
  replace Kt_11 := Lib.hid (Go.Proofs.YtlljmgphgmklcaaDoor.GoC.cur_below Kt_11.out bw_t_13)
  replace Ot_0 := Lib.hid (own_below Ot_0.out bw_t_13)
  clear bw_t_13
  replace H := bind2_hid H
  obtain ⟨t_14, t_14_tp, qt_14, H⟩ := H
  go_wp2_with fail
  clear kt_0_0__197 kt_0_1__198 kt_0_2__199 kt_0_3__200 kt_0_4__201
  have hc_ := nt_13.out
  have hv_ : (Value.slice (some ⟨wt_11.heap.size, 0, none⟩) 4 4 : Value) = Value.slice (some ⟨wt_11.heap.size, 0, none⟩) t_13.length 4 := by rw [hc_]
  try rw [hv_]
  replace Ot_13 := Lib.hid (own_len hc_ Ot_13.out)
  clear hc_ hv_
  go_wp2_with fail
  go_at_call 23
  refine (Go.Proofs.YtlljmgphgmklcaaDoor.GsL1CurAmong.C (t_11_tp) (t_13) (some ⟨wt_11.heap.size, 0, none⟩) 4 (w_t_0.heap.size) (A0) (c0) (w.heap.size) _   (Lib.hid (own_cells Ot_13.out)) (Lib.hid (own_max Ot_13.out)) Kt_11 (Lib.hid (fun _ => Dt_13_t_3.out)) qt_14).mono ?_
  rintro e_t_14 wt_14 ⟨rfl, kt_14, gt_14⟩
  have Kt_14 := Lib.hid kt_14
  have Gt_14 : Hid (w_t_13.grownBy wt_14 (Value.slice (some ⟨w_t_0.heap.size, 0, none⟩) 1 1).ownBlock) := Lib.hid gt_14
  clear kt_14 gt_14
  have HBwt_14 := Lib.hid (Go.Proofs.YtlljmgphgmklcaaDoor.GoC.below_cur HBw_t_13.out Gt_14.out HBw_t_13.out.size (Go.Proofs.YtlljmgphgmklcaaDoor.GoC.cur_lt Kt_11.out).1)
  replace kt_0_0__202 := cell_other kt_0_0__202 Gt_14.out Dt_3_t_0.out
  replace kt_0_1__203 := cell_other kt_0_1__203 Gt_14.out Dt_3_t_0.out
  replace kt_0_2__204 := cell_other kt_0_2__204 Gt_14.out Dt_3_t_0.out
  replace kt_0_3__205 := cell_other kt_0_3__205 Gt_14.out Dt_3_t_0.out
  replace kt_0_4__206 := cell_other kt_0_4__206 Gt_14.out Dt_3_t_0.out
  replace Ot_0 := Lib.hid (own_other Ot_0.out Gt_14.out Dt_3_t_0.out)
  replace Ot_7 := Lib.hid (own_other Ot_7.out Gt_14.out (Apart.symm Dt_7_t_3.out))
  replace Ot_10 := Lib.hid (own_other Ot_10.out Gt_14.out (Apart.symm Dt_10_t_3.out))
  replace Ot_13 := Lib.hid (own_other Ot_13.out Gt_14.out (Apart.symm Dt_13_t_3.out))
  clear Kt_11 Gt_14
  replace H := bind2_hid H
  obtain ⟨t_15, t_15_tp, qt_15, H⟩ := H
  obtain ⟨t_15_zone, t_15_grams, t_15_from_, t_15_until_, t_15_cents⟩ := t_15
  replace H := unRate_hid H
  go_wp2_with fail
  go_at_call 44
  refine (Go.Proofs.YtlljmgphgmklcaaDoor.GsL1CurRate.C (t_14_tp) (t_8) (t_11) (t_14) (w_t_0.heap.size) (A0) (c0) (w.heap.size) _   Kt_14 qt_15).mono ?_
  rintro e_t_15 wt_15 ⟨rfl, kt_15, gt_15⟩
  unfold Go.Proofs.YtlljmgphgmklcaaDoor.PRate.Rate.val
  have Kt_15 := Lib.hid kt_15
  have Gt_15 : Hid (wt_14.grownBy wt_15 (Value.slice (some ⟨w_t_0.heap.size, 0, none⟩) 1 1).ownBlock) := Lib.hid gt_15
  clear kt_15 gt_15
  have HBwt_15 := Lib.hid (Go.Proofs.YtlljmgphgmklcaaDoor.GoC.below_cur HBwt_14.out Gt_15.out HBwt_14.out.size (Go.Proofs.YtlljmgphgmklcaaDoor.GoC.cur_lt Kt_14.out).1)
  replace kt_0_0__202 := cell_other kt_0_0__202 Gt_15.out Dt_3_t_0.out
  replace kt_0_1__203 := cell_other kt_0_1__203 Gt_15.out Dt_3_t_0.out
  replace kt_0_2__204 := cell_other kt_0_2__204 Gt_15.out Dt_3_t_0.out
  replace kt_0_3__205 := cell_other kt_0_3__205 Gt_15.out Dt_3_t_0.out
  replace kt_0_4__206 := cell_other kt_0_4__206 Gt_15.out Dt_3_t_0.out
  replace Ot_0 := Lib.hid (own_other Ot_0.out Gt_15.out Dt_3_t_0.out)
  replace Ot_7 := Lib.hid (own_other Ot_7.out Gt_15.out (Apart.symm Dt_7_t_3.out))
  replace Ot_10 := Lib.hid (own_other Ot_10.out Gt_15.out (Apart.symm Dt_10_t_3.out))
  replace Ot_13 := Lib.hid (own_other Ot_13.out Gt_15.out (Apart.symm Dt_13_t_3.out))
  clear Kt_14 Gt_15
  obtain ⟨wb16_16, hwb16_16⟩ : ∃ x, (((((wt_15).setCell ⟨w.heap.size, 0, none⟩ (.int .i64 t_15_zone)).setCell ⟨w.heap.size, 1, none⟩ (.int .i64 t_15_grams)).setCell ⟨w.heap.size, 2, none⟩ (.int .i64 t_15_from_)).setCell ⟨w.heap.size, 3, none⟩ (.int .i64 t_15_until_)).setCell ⟨w.heap.size, 4, none⟩ (.int .i64 t_15_cents) = x := ⟨_, rfl⟩
  have z0b16_16 := Ot_0.out.frozenAt 0
  have z1b16_16 := Ot_0.out.frozenAt 1
  have z2b16_16 := Ot_0.out.frozenAt 2
  have z3b16_16 := Ot_0.out.frozenAt 3
  have z4b16_16 := Ot_0.out.frozenAt 4
  have Sb16_16 := Lib.hid (own_stores [(0, .int .i64 t_15_zone), (1, .int .i64 t_15_grams), (2, .int .i64 t_15_from_), (3, .int .i64 t_15_until_), (4, .int .i64 t_15_cents)] Ot_0.out)
  have Pb16_16 : Hid (wb16_16.ownsRow w.heap.size 38 5 (.slice (some ⟨w.heap.size, 0, none⟩) 1 1) 1 [.int .i64 t_15_zone, .int .i64 t_15_grams, .int .i64 t_15_from_, .int .i64 t_15_until_, .int .i64 t_15_cents]) := Lib.hid (by rw [← hwb16_16]; exact Sb16_16.out.1)
  have Gb16_16 : Hid (wt_15.grownBy wb16_16 (Value.slice (some ⟨w.heap.size, 0, none⟩) 1 1).ownBlock) := Lib.hid (by rw [← hwb16_16]; exact Sb16_16.out.2)
  have HBwb16_16 := Lib.hid (HBwt_15.out.grown Gb16_16.out HBwt_15.out.size (fun q hq => (Ot_0.out.lt q hq).1))
  clear Sb16_16
  replace Ot_7 := Lib.hid (own_other Ot_7.out Gb16_16.out (Apart.symm Dt_7_t_0.out))
  replace Ot_10 := Lib.hid (own_other Ot_10.out Gb16_16.out (Apart.symm Dt_10_t_0.out))
  replace Ot_13 := Lib.hid (own_other Ot_13.out Gb16_16.out (Apart.symm Dt_13_t_0.out))
  replace Kt_15 := Lib.hid (Go.Proofs.YtlljmgphgmklcaaDoor.GoC.cur_other Kt_15.out Gb16_16.out (Apart.symm Dt_3_t_0.out) (Go.Proofs.YtlljmgphgmklcaaDoor.GoC.own_ge Ot_0.out))
  clear Ot_0 Gb16_16
  have kt_0_0__207 : wb16_16.cell? ⟨w.heap.size, 0, none⟩ = some (.int .i64 t_15_zone) := Pb16_16.out.cells rfl 0 _ rfl
  have kt_0_1__208 : wb16_16.cell? ⟨w.heap.size, 1, none⟩ = some (.int .i64 t_15_grams) := Pb16_16.out.cells rfl 1 _ rfl
  have kt_0_2__209 : wb16_16.cell? ⟨w.heap.size, 2, none⟩ = some (.int .i64 t_15_from_) := Pb16_16.out.cells rfl 2 _ rfl
  have kt_0_3__210 : wb16_16.cell? ⟨w.heap.size, 3, none⟩ = some (.int .i64 t_15_until_) := Pb16_16.out.cells rfl 3 _ rfl
  have kt_0_4__211 : wb16_16.cell? ⟨w.heap.size, 4, none⟩ = some (.int .i64 t_15_cents) := Pb16_16.out.cells rfl 4 _ rfl
  cases ret_hid H
  go_wp2_with fail
  (try simp only [Exit.inBlock, Exit.then])
  refine bodyPost_ret (v := .agg #[.int .i64 t_15_zone, .int .i64 t_15_grams, .int .i64 t_15_from_, .int .i64 t_15_until_, .int .i64 t_15_cents]) ?hr_ ?hd_ ?_
  case hd_ => rfl
  case hr_ => simp [results, Tryd.results38, kt_0_0__207, kt_0_1__208, kt_0_2__209, kt_0_3__210, kt_0_4__211, go_sem]
  exact ⟨rfl, HBwb16_16.out⟩
end Go.Proofs.YtlljmgphgmklcaaDoor.GsDrawIsRate

/- loop.example/g01062/spec.DrawRateText as a plain function, and the contract of the program's: where the plain one has an answer, the program has it. Conditions: slices read as lists. -/
namespace Go.Proofs.YtlljmgphgmklcaaDoor.GsDrawRateText
set_option linter.unusedVariables false
set_option linter.unusedSimpArgs false
open Go.RowKit
open Go.Proofs.YtlljmgphgmklcaaDoor.Rowed Go.Proofs.YtlljmgphgmklcaaDoor.Turn Go.Proofs.YtlljmgphgmklcaaDoor.Aid Go.Proofs.YtlljmgphgmklcaaDoor.GoP Go.Proofs.YtlljmgphgmklcaaDoor.GoM

def P (tapes : List Int → Go.Proofs.YtlljmgphgmklcaaDoor.GoC.Tape) (code : (List Int)) : Option (Go.Proofs.YtlljmgphgmklcaaDoor.PRate.Rate) :=
  Option.bind (Go.Proofs.YtlljmgphgmklcaaDoor.GsDrawIsRate.P tapes code) fun (t_2 : Go.Proofs.YtlljmgphgmklcaaDoor.PRate.Rate) =>
  unRate t_2 fun (t_2_zone : Int) (t_2_grams : Int) (t_2_from_ : Int) (t_2_until_ : Int) (t_2_cents : Int) =>
  some (Go.Proofs.YtlljmgphgmklcaaDoor.PRate.Rate.mk t_2_zone t_2_grams t_2_from_ t_2_until_ t_2_cents)

set_option maxRecDepth 100000 in
set_option maxHeartbeats 2000000 in
theorem C (tapes : List Int → Go.Proofs.YtlljmgphgmklcaaDoor.GoC.Tape) (code : (List Int)) (A0 : Option Addr) (c0 : Nat)  (w : World) (HE : Hid (Go.Proofs.YtlljmgphgmklcaaDoor.GoC.Tells tapes)) (M0 : Hid (Cells w 1 A0 code.length (Go.Proofs.YtlljmgphgmklcaaDoor.GoC.u8s code))) (N0 : Hid (code.length ≤ 9223372036854775807)) (V0 : Hid (∀ z ∈ code, 0 ≤ z ∧ z ≤ 255))  {r : Go.Proofs.YtlljmgphgmklcaaDoor.PRate.Rate} (H : Hid (P tapes code = some r)) :
    Calls Tryd.prog 18 #[.slice A0 code.length c0] w (Gives ((Go.Proofs.YtlljmgphgmklcaaDoor.PRate.Rate.val r)) w) := by
  have HB := Lib.hid (Below.refl w.heap.size w)
  unfold P at H
  have N0o := N0.out
  go_enter Tryd.func18, Tryd.ntmps18
  obtain ⟨w_t_0, hw_t_0⟩ : ∃ x, w.alloc (.cells #[.int .i64 0, .int .i64 0, .int .i64 0, .int .i64 0, .int .i64 0] 38) = x := ⟨_, rfl⟩
  have bw_t_0 : Below w.heap.size w w_t_0 := by rw [← hw_t_0]; exact (Below.refl _ _).alloc (Nat.le_refl _) _
  have HBw_t_0 := Lib.hid (Below.step HB.out bw_t_0)
  clear bw_t_0
  have kt_0_0 : w_t_0.cell? ⟨w.heap.size, 0, none⟩ = some (.int .i64 0) := by rw [← hw_t_0]; exact box_new _ _ _ 0 _ rfl
  have kt_0_1 : w_t_0.cell? ⟨w.heap.size, 1, none⟩ = some (.int .i64 0) := by rw [← hw_t_0]; exact box_new _ _ _ 1 _ rfl
  have kt_0_2 : w_t_0.cell? ⟨w.heap.size, 2, none⟩ = some (.int .i64 0) := by rw [← hw_t_0]; exact box_new _ _ _ 2 _ rfl
  have kt_0_3 : w_t_0.cell? ⟨w.heap.size, 3, none⟩ = some (.int .i64 0) := by rw [← hw_t_0]; exact box_new _ _ _ 3 _ rfl
  have kt_0_4 : w_t_0.cell? ⟨w.heap.size, 4, none⟩ = some (.int .i64 0) := by rw [← hw_t_0]; exact box_new _ _ _ 4 _ rfl
  have Ot_0 : Hid (w_t_0.ownsRow w.heap.size 38 5 (.slice (some ⟨w.heap.size, 0, none⟩) 1 1) 1 [.int .i64 0, .int .i64 0, .int .i64 0, .int .i64 0, .int .i64 0]) := Lib.hid (by rw [← hw_t_0]; exact own_laid (n := 1) HB.out.size rfl rfl (by unfold maxLen; omega))
  replace H := bind_hid H
  obtain ⟨t_2, qt_2, H⟩ := H
  obtain ⟨t_2_zone, t_2_grams, t_2_from_, t_2_until_, t_2_cents⟩ := t_2
  replace H := unRate_hid H
  go_wp2_with fail
  go_at_call 38
  refine (Go.Proofs.YtlljmgphgmklcaaDoor.GsDrawIsRate.C tapes (code) A0 c0 _  HE (Lib.hid (Cells.below M0.out HBw_t_0.out)) N0 V0 qt_2).mono ?_
  rintro e_t_2 wt_2 ⟨rfl, bt_2⟩
  unfold Go.Proofs.YtlljmgphgmklcaaDoor.PRate.Rate.val
  have HBwt_2 := Lib.hid (Below.step HBw_t_0.out bt_2)
  replace kt_0_0 := cell_below bt_2 kt_0_0
  replace kt_0_1 := cell_below bt_2 kt_0_1
  replace kt_0_2 := cell_below bt_2 kt_0_2
  replace kt_0_3 := cell_below bt_2 kt_0_3
  replace kt_0_4 := cell_below bt_2 kt_0_4
  replace Ot_0 := Lib.hid (own_below Ot_0.out bt_2)
  clear bt_2
  obtain ⟨wb3_3, hwb3_3⟩ : ∃ x, (((((wt_2).setCell ⟨w.heap.size, 0, none⟩ (.int .i64 t_2_zone)).setCell ⟨w.heap.size, 1, none⟩ (.int .i64 t_2_grams)).setCell ⟨w.heap.size, 2, none⟩ (.int .i64 t_2_from_)).setCell ⟨w.heap.size, 3, none⟩ (.int .i64 t_2_until_)).setCell ⟨w.heap.size, 4, none⟩ (.int .i64 t_2_cents) = x := ⟨_, rfl⟩
  have z0b3_3 := Ot_0.out.frozenAt 0
  have z1b3_3 := Ot_0.out.frozenAt 1
  have z2b3_3 := Ot_0.out.frozenAt 2
  have z3b3_3 := Ot_0.out.frozenAt 3
  have z4b3_3 := Ot_0.out.frozenAt 4
  have Sb3_3 := Lib.hid (own_stores [(0, .int .i64 t_2_zone), (1, .int .i64 t_2_grams), (2, .int .i64 t_2_from_), (3, .int .i64 t_2_until_), (4, .int .i64 t_2_cents)] Ot_0.out)
  have Pb3_3 : Hid (wb3_3.ownsRow w.heap.size 38 5 (.slice (some ⟨w.heap.size, 0, none⟩) 1 1) 1 [.int .i64 t_2_zone, .int .i64 t_2_grams, .int .i64 t_2_from_, .int .i64 t_2_until_, .int .i64 t_2_cents]) := Lib.hid (by rw [← hwb3_3]; exact Sb3_3.out.1)
  have Gb3_3 : Hid (wt_2.grownBy wb3_3 (Value.slice (some ⟨w.heap.size, 0, none⟩) 1 1).ownBlock) := Lib.hid (by rw [← hwb3_3]; exact Sb3_3.out.2)
  have HBwb3_3 := Lib.hid (HBwt_2.out.grown Gb3_3.out HBwt_2.out.size (fun q hq => (Ot_0.out.lt q hq).1))
  clear Sb3_3
  clear Ot_0 Gb3_3
  have kt_0_0__212 : wb3_3.cell? ⟨w.heap.size, 0, none⟩ = some (.int .i64 t_2_zone) := Pb3_3.out.cells rfl 0 _ rfl
  have kt_0_1__213 : wb3_3.cell? ⟨w.heap.size, 1, none⟩ = some (.int .i64 t_2_grams) := Pb3_3.out.cells rfl 1 _ rfl
  have kt_0_2__214 : wb3_3.cell? ⟨w.heap.size, 2, none⟩ = some (.int .i64 t_2_from_) := Pb3_3.out.cells rfl 2 _ rfl
  have kt_0_3__215 : wb3_3.cell? ⟨w.heap.size, 3, none⟩ = some (.int .i64 t_2_until_) := Pb3_3.out.cells rfl 3 _ rfl
  have kt_0_4__216 : wb3_3.cell? ⟨w.heap.size, 4, none⟩ = some (.int .i64 t_2_cents) := Pb3_3.out.cells rfl 4 _ rfl
  cases ret_hid H
  go_wp2_with fail
  (try simp only [Exit.inBlock, Exit.then])
  refine bodyPost_ret (v := .agg #[.int .i64 t_2_zone, .int .i64 t_2_grams, .int .i64 t_2_from_, .int .i64 t_2_until_, .int .i64 t_2_cents]) ?hr_ ?hd_ ?_
  case hd_ => rfl
  case hr_ => simp [results, Tryd.results18, kt_0_0__212, kt_0_1__213, kt_0_2__214, kt_0_3__215, kt_0_4__216, go_sem]
  exact ⟨rfl, HBwb3_3.out⟩
end Go.Proofs.YtlljmgphgmklcaaDoor.GsDrawRateText

/- strconv.Itoa as a plain function; the contract of the program's. Condition: the library's table of powers of ten is as the library lays it. -/
namespace Go.Proofs.YtlljmgphgmklcaaDoor.GxStrconvItoa
set_option linter.unusedVariables false
open Go.RowKit
open Go.Proofs.YtlljmgphgmklcaaDoor.Turn Go.Proofs.YtlljmgphgmklcaaDoor.Tab
def P (n : Int) : Option ByteArray := if -9223372036854775808 ≤ n ∧ n ≤ 9223372036854775807 then some ⟨(Lib.itoa n).toArray⟩ else none
theorem C (n : Int) (w : World) (HT : Hid (Tab w)) {r : ByteArray} (H : Hid (P n = some r)) : Calls Tryd.prog 39 #[.int .i64 n] w (Gives (.string r) w) := by
  have h : P n = some r := H
  unfold P at h
  by_cases hk : -9223372036854775808 ≤ n ∧ n ≤ 9223372036854775807
  · rw [if_pos hk] at h
    obtain rfl := Option.some.inj h
    exact itoa_any n hk.1 hk.2 w HT
  · rw [if_neg hk] at h; simp at h
end Go.Proofs.YtlljmgphgmklcaaDoor.GxStrconvItoa

/- loop.example/g01062/impl.RateText as a plain function, and the contract of the program's: where the plain one has an answer, the program has it. Conditions: slices read as lists. -/
namespace Go.Proofs.YtlljmgphgmklcaaDoor.GiRateText
set_option linter.unusedVariables false
set_option linter.unusedSimpArgs false
open Go.RowKit
open Go.Proofs.YtlljmgphgmklcaaDoor.Rowed Go.Proofs.YtlljmgphgmklcaaDoor.Turn Go.Proofs.YtlljmgphgmklcaaDoor.Aid Go.Proofs.YtlljmgphgmklcaaDoor.GoP Go.Proofs.YtlljmgphgmklcaaDoor.GoM Go.Proofs.YtlljmgphgmklcaaDoor.Tab

def P (r_0 : Go.Proofs.YtlljmgphgmklcaaDoor.PRate.Rate) : Option (ByteArray × Bool) :=
  unRate r_0 fun (r_0_zone : Int) (r_0_grams : Int) (r_0_from_ : Int) (r_0_until_ : Int) (r_0_cents : Int) =>
  Option.bind (Go.Proofs.YtlljmgphgmklcaaDoor.GiIsRate.P (Go.Proofs.YtlljmgphgmklcaaDoor.PRate.Rate.mk r_0_zone r_0_grams r_0_from_ r_0_until_ r_0_cents)) fun (t_4 : Bool) =>
  letK (!t_4) fun (t_5 : Bool) =>
  iteK t_5
  (some ((⟨#[]⟩ : ByteArray), false))
  (Option.bind (Go.Proofs.YtlljmgphgmklcaaDoor.GxStrconvItoa.P r_0_zone) fun (t_10 : ByteArray) =>
  guardK ((⟨#[122]⟩ : ByteArray).size + t_10.size ≤ maxLen) <|
  letK ((⟨#[122]⟩ : ByteArray) ++ t_10) fun (t_11 : ByteArray) =>
  guardK (t_11.size + (⟨#[32]⟩ : ByteArray).size ≤ maxLen) <|
  letK (t_11 ++ (⟨#[32]⟩ : ByteArray)) fun (t_12 : ByteArray) =>
  Option.bind (Go.Proofs.YtlljmgphgmklcaaDoor.GxStrconvItoa.P r_0_grams) fun (t_15 : ByteArray) =>
  guardK (t_12.size + t_15.size ≤ maxLen) <|
  letK (t_12 ++ t_15) fun (t_16 : ByteArray) =>
  guardK (t_16.size + (⟨#[103, 32]⟩ : ByteArray).size ≤ maxLen) <|
  letK (t_16 ++ (⟨#[103, 32]⟩ : ByteArray)) fun (t_17 : ByteArray) =>
  Option.bind (Go.Proofs.YtlljmgphgmklcaaDoor.GxStrconvItoa.P r_0_from_) fun (t_20 : ByteArray) =>
  guardK (t_17.size + t_20.size ≤ maxLen) <|
  letK (t_17 ++ t_20) fun (t_21 : ByteArray) =>
  guardK (t_21.size + (⟨#[46, 46]⟩ : ByteArray).size ≤ maxLen) <|
  letK (t_21 ++ (⟨#[46, 46]⟩ : ByteArray)) fun (t_22 : ByteArray) =>
  Option.bind (Go.Proofs.YtlljmgphgmklcaaDoor.GxStrconvItoa.P r_0_until_) fun (t_25 : ByteArray) =>
  guardK (t_22.size + t_25.size ≤ maxLen) <|
  letK (t_22 ++ t_25) fun (t_26 : ByteArray) =>
  guardK (t_26.size + (⟨#[32]⟩ : ByteArray).size ≤ maxLen) <|
  letK (t_26 ++ (⟨#[32]⟩ : ByteArray)) fun (t_27 : ByteArray) =>
  Option.bind (Go.Proofs.YtlljmgphgmklcaaDoor.GxStrconvItoa.P r_0_cents) fun (t_30 : ByteArray) =>
  guardK (t_27.size + t_30.size ≤ maxLen) <|
  letK (t_27 ++ t_30) fun (t_31 : ByteArray) =>
  guardK (t_31.size + (⟨#[99]⟩ : ByteArray).size ≤ maxLen) <|
  letK (t_31 ++ (⟨#[99]⟩ : ByteArray)) fun (t_32 : ByteArray) =>
  some (t_32, true))

set_option maxRecDepth 100000 in
set_option maxHeartbeats 2000000 in
theorem C (r_0 : Go.Proofs.YtlljmgphgmklcaaDoor.PRate.Rate)   (w : World) (HT : Hid (Tab w))   {r0 : ByteArray} {r1 : Bool} (H : Hid (P r_0 = some (r0, r1))) :
    Calls Tryd.prog 19 #[r_0.val] w (Gives (.tuple #[.string r0, .bool r1]) w) := by
  have HB := Lib.hid (Below.refl w.heap.size w)
  unfold P at H
  obtain ⟨r_0_zone, r_0_grams, r_0_from_, r_0_until_, r_0_cents⟩ := r_0
  replace H := unRate_hid H
  unfold Go.Proofs.YtlljmgphgmklcaaDoor.PRate.Rate.val
  go_enter Tryd.func19, Tryd.ntmps19
  obtain ⟨w_r_0, hw_r_0⟩ : ∃ x, w.alloc (.cells #[.int .i64 r_0_zone, .int .i64 r_0_grams, .int .i64 r_0_from_, .int .i64 r_0_until_, .int .i64 r_0_cents] 38) = x := ⟨_, rfl⟩
  have bw_r_0 : Below w.heap.size w w_r_0 := by rw [← hw_r_0]; exact (Below.refl _ _).alloc (Nat.le_refl _) _
  have HBw_r_0 := Lib.hid (Below.step HB.out bw_r_0)
  clear bw_r_0
  have kr_0_0 : w_r_0.cell? ⟨w.heap.size, 0, none⟩ = some (.int .i64 r_0_zone) := by rw [← hw_r_0]; exact box_new _ _ _ 0 _ rfl
  have kr_0_1 : w_r_0.cell? ⟨w.heap.size, 1, none⟩ = some (.int .i64 r_0_grams) := by rw [← hw_r_0]; exact box_new _ _ _ 1 _ rfl
  have kr_0_2 : w_r_0.cell? ⟨w.heap.size, 2, none⟩ = some (.int .i64 r_0_from_) := by rw [← hw_r_0]; exact box_new _ _ _ 2 _ rfl
  have kr_0_3 : w_r_0.cell? ⟨w.heap.size, 3, none⟩ = some (.int .i64 r_0_until_) := by rw [← hw_r_0]; exact box_new _ _ _ 3 _ rfl
  have kr_0_4 : w_r_0.cell? ⟨w.heap.size, 4, none⟩ = some (.int .i64 r_0_cents) := by rw [← hw_r_0]; exact box_new _ _ _ 4 _ rfl
  replace H := bind_hid H
  obtain ⟨t_4, qt_4, H⟩ := H
  go_wp2_with fail
  go_at_call 21
  refine (Go.Proofs.YtlljmgphgmklcaaDoor.GiIsRate.C ((Go.Proofs.YtlljmgphgmklcaaDoor.PRate.Rate.mk r_0_zone r_0_grams r_0_from_ r_0_until_ r_0_cents))  _    qt_4).mono ?_
  rintro e_t_4 wt_4 ⟨rfl, bt_4⟩
  have HBwt_4 := Lib.hid (Below.step HBw_r_0.out bt_4)
  replace kr_0_0 := cell_below bt_4 kr_0_0
  replace kr_0_1 := cell_below bt_4 kr_0_1
  replace kr_0_2 := cell_below bt_4 kr_0_2
  replace kr_0_3 := cell_below bt_4 kr_0_3
  replace kr_0_4 := cell_below bt_4 kr_0_4
  clear bt_4
  cases t_4 with
  | false =>
    replace H := let_hid H
    obtain ⟨t_5, ht_5, H⟩ := H
    obtain rfl : t_5 = true := ht_5.symm
    replace H := ite_t H
    cases ret_hid H
    go_wp2_with fail
    go_ret2
    exact ⟨rfl, HBwt_4.out⟩
  | true =>
    replace H := let_hid H
    obtain ⟨t_5, ht_5, H⟩ := H
    obtain rfl : t_5 = false := ht_5.symm
    replace H := ite_f H
    go_wp2_with fail
    have Hkr_0_0 := Lib.hid kr_0_0
    replace kr_0_0 := cell_regrown kr_0_0
    have Hkr_0_1 := Lib.hid kr_0_1
    replace kr_0_1 := cell_regrown kr_0_1
    have Hkr_0_2 := Lib.hid kr_0_2
    replace kr_0_2 := cell_regrown kr_0_2
    have Hkr_0_3 := Lib.hid kr_0_3
    replace kr_0_3 := cell_regrown kr_0_3
    have Hkr_0_4 := Lib.hid kr_0_4
    replace kr_0_4 := cell_regrown kr_0_4
    replace H := bind_hid H
    obtain ⟨t_10, qt_10, H⟩ := H
    have nt_10 : ∀ d os, Calls Tryd.prog 39 #[.int .i64 r_0_zone] (Go.Sort.grow (redrawn wt_4 d) os) fun e w'' => e = .returned (.string t_10) ∧ ∃ p : Regrown, w'' = Go.Sort.grow (redrawn wt_4 p.d) p.os := fun d os => Calls.regrown_of (Go.Proofs.YtlljmgphgmklcaaDoor.GxStrconvItoa.C (r_0_zone)  _ (tab_below (below_regrown _ _ _) (tab_below HBwt_4.out HT))   qt_10)
    replace H := guard_hid H
    obtain ⟨hl_t_11, H⟩ := H
    replace H := let_hid H
    obtain ⟨t_11, ht_11, H⟩ := H
    have ct_11 := cat_rule (P := Tryd.prog) ht_11 hl_t_11
    clear hl_t_11
    have hht_11 := Lib.hid ht_11
    clear ht_11
    replace H := guard_hid H
    obtain ⟨hl_t_12, H⟩ := H
    replace H := let_hid H
    obtain ⟨t_12, ht_12, H⟩ := H
    have ct_12 := cat_rule (P := Tryd.prog) ht_12 hl_t_12
    clear hl_t_12
    have hht_12 := Lib.hid ht_12
    clear ht_12
    replace H := bind_hid H
    obtain ⟨t_15, qt_15, H⟩ := H
    have nt_15 : ∀ d os, Calls Tryd.prog 39 #[.int .i64 r_0_grams] (Go.Sort.grow (redrawn wt_4 d) os) fun e w'' => e = .returned (.string t_15) ∧ ∃ p : Regrown, w'' = Go.Sort.grow (redrawn wt_4 p.d) p.os := fun d os => Calls.regrown_of (Go.Proofs.YtlljmgphgmklcaaDoor.GxStrconvItoa.C (r_0_grams)  _ (tab_below (below_regrown _ _ _) (tab_below HBwt_4.out HT))   qt_15)
    replace H := guard_hid H
    obtain ⟨hl_t_16, H⟩ := H
    replace H := let_hid H
    obtain ⟨t_16, ht_16, H⟩ := H
    have ct_16 := cat_rule (P := Tryd.prog) ht_16 hl_t_16
    clear hl_t_16
    have hht_16 := Lib.hid ht_16
    clear ht_16
    replace H := guard_hid H
    obtain ⟨hl_t_17, H⟩ := H
    replace H := let_hid H
    obtain ⟨t_17, ht_17, H⟩ := H
    have ct_17 := cat_rule (P := Tryd.prog) ht_17 hl_t_17
    clear hl_t_17
    have hht_17 := Lib.hid ht_17
    clear ht_17
    replace H := bind_hid H
    obtain ⟨t_20, qt_20, H⟩ := H
    have nt_20 : ∀ d os, Calls Tryd.prog 39 #[.int .i64 r_0_from_] (Go.Sort.grow (redrawn wt_4 d) os) fun e w'' => e = .returned (.string t_20) ∧ ∃ p : Regrown, w'' = Go.Sort.grow (redrawn wt_4 p.d) p.os := fun d os => Calls.regrown_of (Go.Proofs.YtlljmgphgmklcaaDoor.GxStrconvItoa.C (r_0_from_)  _ (tab_below (below_regrown _ _ _) (tab_below HBwt_4.out HT))   qt_20)
    replace H := guard_hid H
    obtain ⟨hl_t_21, H⟩ := H
    replace H := let_hid H
    obtain ⟨t_21, ht_21, H⟩ := H
    have ct_21 := cat_rule (P := Tryd.prog) ht_21 hl_t_21
    clear hl_t_21
    have hht_21 := Lib.hid ht_21
    clear ht_21
    replace H := guard_hid H
    obtain ⟨hl_t_22, H⟩ := H
    replace H := let_hid H
    obtain ⟨t_22, ht_22, H⟩ := H
    have ct_22 := cat_rule (P := Tryd.prog) ht_22 hl_t_22
    clear hl_t_22
    have hht_22 := Lib.hid ht_22
    clear ht_22
    replace H := bind_hid H
    obtain ⟨t_25, qt_25, H⟩ := H
    have nt_25 : ∀ d os, Calls Tryd.prog 39 #[.int .i64 r_0_until_] (Go.Sort.grow (redrawn wt_4 d) os) fun e w'' => e = .returned (.string t_25) ∧ ∃ p : Regrown, w'' = Go.Sort.grow (redrawn wt_4 p.d) p.os := fun d os => Calls.regrown_of (Go.Proofs.YtlljmgphgmklcaaDoor.GxStrconvItoa.C (r_0_until_)  _ (tab_below (below_regrown _ _ _) (tab_below HBwt_4.out HT))   qt_25)
    replace H := guard_hid H
    obtain ⟨hl_t_26, H⟩ := H
    replace H := let_hid H
    obtain ⟨t_26, ht_26, H⟩ := H
    have ct_26 := cat_rule (P := Tryd.prog) ht_26 hl_t_26
    clear hl_t_26
    have hht_26 := Lib.hid ht_26
    clear ht_26
    replace H := guard_hid H
    obtain ⟨hl_t_27, H⟩ := H
    replace H := let_hid H
    obtain ⟨t_27, ht_27, H⟩ := H
    have ct_27 := cat_rule (P := Tryd.prog) ht_27 hl_t_27
    clear hl_t_27
    have hht_27 := Lib.hid ht_27
    clear ht_27
    replace H := bind_hid H
    obtain ⟨t_30, qt_30, H⟩ := H
    have nt_30 : ∀ d os, Calls Tryd.prog 39 #[.int .i64 r_0_cents] (Go.Sort.grow (redrawn wt_4 d) os) fun e w'' => e = .returned (.string t_30) ∧ ∃ p : Regrown, w'' = Go.Sort.grow (redrawn wt_4 p.d) p.os := fun d os => Calls.regrown_of (Go.Proofs.YtlljmgphgmklcaaDoor.GxStrconvItoa.C (r_0_cents)  _ (tab_below (below_regrown _ _ _) (tab_below HBwt_4.out HT))   qt_30)
    replace H := guard_hid H
    obtain ⟨hl_t_31, H⟩ := H
    replace H := let_hid H
    obtain ⟨t_31, ht_31, H⟩ := H
    have ct_31 := cat_rule (P := Tryd.prog) ht_31 hl_t_31
    clear hl_t_31
    have hht_31 := Lib.hid ht_31
    clear ht_31
    replace H := guard_hid H
    obtain ⟨hl_t_32, H⟩ := H
    replace H := let_hid H
    obtain ⟨t_32, ht_32, H⟩ := H
    have ct_32 := cat_rule (P := Tryd.prog) ht_32 hl_t_32
    clear hl_t_32
    have hht_32 := Lib.hid ht_32
    clear ht_32
    refine wp_region_quiet_below (by kernel_rfl) (by kernel_rfl) ?_
    repeat (go_big_quiet_step (first | (go_at_call 39; with_reducible exact nt_10 _ _) | (go_at_call 39; with_reducible exact nt_15 _ _) | (go_at_call 39; with_reducible exact nt_20 _ _) | (go_at_call 39; with_reducible exact nt_25 _ _) | (go_at_call 39; with_reducible exact nt_30 _ _) | (go_at_call 39; exact nt_10 _ _) | (go_at_call 39; exact nt_15 _ _) | (go_at_call 39; exact nt_20 _ _) | (go_at_call 39; exact nt_25 _ _) | (go_at_call 39; exact nt_30 _ _)))
    refine wpQuiet_nil ?_
    intro Y3 hY3
    replace hY3 := below_class hY3
    clear nt_10 nt_15 nt_20 nt_25 nt_30
    replace kr_0_0 := Hkr_0_0.out
    clear Hkr_0_0
    replace kr_0_1 := Hkr_0_1.out
    clear Hkr_0_1
    replace kr_0_2 := Hkr_0_2.out
    clear Hkr_0_2
    replace kr_0_3 := Hkr_0_3.out
    clear Hkr_0_3
    replace kr_0_4 := Hkr_0_4.out
    clear Hkr_0_4
    have HBY3 := Lib.hid (Below.step HBwt_4.out hY3)
    replace kr_0_0 := cell_below hY3 kr_0_0
    replace kr_0_1 := cell_below hY3 kr_0_1
    replace kr_0_2 := cell_below hY3 kr_0_2
    replace kr_0_3 := cell_below hY3 kr_0_3
    replace kr_0_4 := cell_below hY3 kr_0_4
    clear hY3
    cases ret_hid H
    go_wp2_with fail
    go_ret2
    exact ⟨rfl, HBY3.out⟩
end Go.Proofs.YtlljmgphgmklcaaDoor.GiRateText

/- The contracts of spec.l1In and spec.l1Num: whether a number lies within bounds, and its decimal numeral. Condition: the number is an int, from -2^62 on for l1Num. -/
namespace Go.Proofs.YtlljmgphgmklcaaDoor.Num
open Go.RowKit

theorem l1In_yes (x a b : Int) (w : World) (h1 : a ≤ x) (h2 : x ≤ b) :
    Calls Tryd.prog 48 #[.int .i64 x, .int .i64 a, .int .i64 b] w fun e w' => e = .returned (.bool true) ∧ w = w' := by
  go_enter Tryd.func48, Tryd.ntmps48
  go_wp2
  go_ret
  exact ⟨rfl, rfl⟩

theorem l1In_no (x a b : Int) (w : World) (h : x < a ∨ b < x) :
    Calls Tryd.prog 48 #[.int .i64 x, .int .i64 a, .int .i64 b] w fun e w' => e = .returned (.bool false) ∧ w = w' := by
  by_cases h1 : a ≤ x
  · have h2 : b < x := by omega
    clear h
    go_enter Tryd.func48, Tryd.ntmps48
    go_wp2
    go_ret
    exact ⟨by simp; omega, rfl⟩
  · clear h
    go_enter Tryd.func48, Tryd.ntmps48
    go_wp2
    go_ret
    exact ⟨rfl, rfl⟩

theorem digits10 (n : Int) (_h0 : 0 ≤ n) (h : n < 10) : (ByteArray.mk #[48, 49, 50, 51, 52, 53, 54, 55, 56, 57]).extract n.toNat (n + 1).toNat = ByteArray.mk #[UInt8.ofNat (48 + n.toNat)] := by
  obtain rfl | rfl | rfl | rfl | rfl | rfl | rfl | rfl | rfl | rfl : n = 0 ∨ n = 1 ∨ n = 2 ∨ n = 3 ∨ n = 4 ∨ n = 5 ∨ n = 6 ∨ n = 7 ∨ n = 8 ∨ n = 9 := by omega
  all_goals rfl

theorem decDigits_step (n : Int) (_h0 : 0 ≤ n) (h : ¬ n < 10) : Lib.decDigits n.toNat = Lib.decDigits (n / 10).toNat ++ [UInt8.ofNat (48 + (n % 10).toNat)] := by
  rw [Lib.decDigits, dif_neg (by omega)]
  have e1 : n.toNat / 10 = (n / 10).toNat := by omega
  have e2 : n.toNat % 10 = (n % 10).toNat := by omega
  rw [e1, e2]

theorem add_digit (n : Int) (h0 : 0 ≤ n) (h : ¬ n < 10) (hb : n ≤ 4611686018427387904) (W : World) :
    (Op.stringOp .add ⟨(Lib.decDigits (n / 10).toNat).toArray⟩ ((ByteArray.mk #[48, 49, 50, 51, 52, 53, 54, 55, 56, 57]).extract (n % 10).toNat (n % 10 + 1).toNat)).run Tryd.prog W
      = .ok (.string ⟨(Lib.decDigits n.toNat).toArray⟩) W := by
  have hl : Lib.nDigits (n / 10).toNat ≤ 20 := Lib.nDigits_le20 _ (by omega)
  rw [digits10 (n % 10) (by omega) (by omega)]
  rw [run_string_add_sum]
  · rw [decDigits_step n h0 h]
    congr 2
  · have e1 : (ByteArray.mk (Lib.decDigits (n / 10).toNat).toArray).size = Lib.nDigits (n / 10).toNat := by
      rw [← Lib.decDigits_length]; rfl
    rw [e1]
    show Lib.nDigits (n / 10).toNat + 1 ≤ _
    omega

set_option maxHeartbeats 800000 in
theorem l1Num_pos (k : Nat) : ∀ (n : Int) (w : World), n < k → 0 ≤ n → n ≤ 4611686018427387904 →
    Calls Tryd.prog 41 #[.int .i64 n] w fun e w' => e = .returned (.string ⟨(Lib.decDigits n.toNat).toArray⟩) ∧ ∃ m, w' = w.drewN m := by
  induction k with
  | zero => intro n w hk h0 _; omega
  | succ k ih =>
    intro n w hk h0 hb
    by_cases h10 : n < 10
    · have HD := Lib.hid (digits10 n h0 h10)
      go_enter Tryd.func41, Tryd.ntmps41
      go_wp2_with fail
      go_ret
      refine ⟨?_, 0, rfl⟩
      rw [Lib.decDigits_one (by omega)]
      simp only [HD.out]
      rfl
    · have hadd := add_digit n h0 h10 hb
      go_enter Tryd.func41, Tryd.ntmps41
      go_wp2_with fail
      have q1 : IntKind.i64.wrap (n.tdiv 10) = n / 10 := by rw [Int.tdiv_eq_ediv_of_nonneg h0]; exact IntWalk.i64_in _ (by omega)
      have q2 : n.tmod 10 = n % 10 := Int.tmod_eq_emod_of_nonneg h0
      have q3 : IntKind.i64.wrap (n % 10) = n % 10 := IntWalk.i64_in _ (by omega)
      have q4 : IntKind.i64.wrap (n % 10 + 1) = n % 10 + 1 := IntWalk.i64_in _ (by omega)
      have b1 : 0 ≤ n % 10 := by omega
      have b2 : n % 10 ≤ n % 10 + 1 := by omega
      have b3 : n % 10 + 1 ≤ 10 := by omega
      have b4 : 0 ≤ n % 10 + 1 := by omega
      have L1 : n / 10 < (k : Int) := by omega
      have L2 : 0 ≤ n / 10 := by omega
      have L3 : n / 10 ≤ 4611686018427387904 := by omega
      go_quiet ((go_at_call 41; exact Calls.quiet_of (ih (n / 10) _ L1 L2 L3)))
      go_wp2_with fail
      go_ret
      exact ⟨rfl, _, rfl⟩

theorem add_minus (n : Int) (h : n < 0) (hb : -4611686018427387904 ≤ n) (W : World) :
    (Op.stringOp .add ⟨#[45]⟩ ⟨(Lib.decDigits (-n).toNat).toArray⟩).run Tryd.prog W = .ok (.string ⟨(Lib.itoa n).toArray⟩) W := by
  have hl : Lib.nDigits (-n).toNat ≤ 20 := Lib.nDigits_le20 _ (by omega)
  have e1 : (ByteArray.mk (Lib.decDigits (-n).toNat).toArray).size = Lib.nDigits (-n).toNat := by
    rw [← Lib.decDigits_length]; rfl
  have e2 : (-n).toNat = n.natAbs := by omega
  rw [run_string_add_sum]
  · unfold Lib.itoa
    rw [if_pos h, e2]
    congr 2
  · rw [e1]
    show 1 + _ ≤ _
    omega

/-- spec.l1Num, for every number that is not too far out -/
theorem l1Num_any (n : Int) (w : World) (h1 : -4611686018427387904 ≤ n) (h2 : n ≤ 4611686018427387904) :
    Calls Tryd.prog 41 #[.int .i64 n] w fun e w' => e = .returned (.string ⟨(Lib.itoa n).toArray⟩) ∧ ∃ m, w' = w.drewN m := by
  by_cases h : n < 0
  · have hadd := add_minus n h h1
    have L1 : -n < ((-n).toNat + 1 : Nat) := by omega
    go_enter Tryd.func41, Tryd.ntmps41
    go_wp2_with (go_at_call 41; refine (l1Num_pos ((-n).toNat + 1) (-n) _ L1 (by omega) (by omega)).mono ?_; rintro e w' ⟨rfl, m, rfl⟩)
    go_ret
    exact ⟨rfl, _, rfl⟩
  · refine (l1Num_pos (n.toNat + 1) n w (by omega) (by omega) h2).mono ?_
    rintro e w' ⟨rfl, m, rfl⟩
    refine ⟨?_, m, rfl⟩
    unfold Lib.itoa
    rw [if_neg h]

end Go.Proofs.YtlljmgphgmklcaaDoor.Num

/- spec.l1Num as a plain function, for numbers that are not too far out; the contract of the program's. No condition. -/
namespace Go.Proofs.YtlljmgphgmklcaaDoor.GsL1Num
set_option linter.unusedVariables false
open Go.RowKit
open Go.Proofs.YtlljmgphgmklcaaDoor.Turn
def P (n : Int) : Option ByteArray := if -4611686018427387904 ≤ n ∧ n ≤ 4611686018427387904 then some ⟨(Lib.itoa n).toArray⟩ else none
theorem C (n : Int) (w : World) {r : ByteArray} (H : Hid (P n = some r)) : Calls Tryd.prog 41 #[.int .i64 n] w (Gives (.string r) w) := by
  have h : P n = some r := H
  unfold P at h
  by_cases hk : -4611686018427387904 ≤ n ∧ n ≤ 4611686018427387904
  · rw [if_pos hk] at h
    obtain rfl := Option.some.inj h
    refine (Go.Proofs.YtlljmgphgmklcaaDoor.Num.l1Num_any n w hk.1 hk.2).mono ?_
    rintro e w' ⟨rfl, m, rfl⟩
    exact ⟨rfl, Go.below_drewN (Below.refl _ _) m⟩
  · rw [if_neg hk] at h; simp at h
end Go.Proofs.YtlljmgphgmklcaaDoor.GsL1Num

/- loop.example/g01062/spec.RateText as a plain function, and the contract of the program's: where the plain one has an answer, the program has it. Conditions: slices read as lists. -/
namespace Go.Proofs.YtlljmgphgmklcaaDoor.GsRateText
set_option linter.unusedVariables false
set_option linter.unusedSimpArgs false
open Go.RowKit
open Go.Proofs.YtlljmgphgmklcaaDoor.Rowed Go.Proofs.YtlljmgphgmklcaaDoor.Turn Go.Proofs.YtlljmgphgmklcaaDoor.Aid Go.Proofs.YtlljmgphgmklcaaDoor.GoP Go.Proofs.YtlljmgphgmklcaaDoor.GoM

def P (r_0 : Go.Proofs.YtlljmgphgmklcaaDoor.PRate.Rate) : Option (ByteArray × Bool) :=
  unRate r_0 fun (r_0_zone : Int) (r_0_grams : Int) (r_0_from_ : Int) (r_0_until_ : Int) (r_0_cents : Int) =>
  Option.bind (Go.Proofs.YtlljmgphgmklcaaDoor.GsL8One.P (Go.Proofs.YtlljmgphgmklcaaDoor.PRate.Rate.mk r_0_zone r_0_grams r_0_from_ r_0_until_ r_0_cents)) fun (t_4 : Bool) =>
  letK (!t_4) fun (t_5 : Bool) =>
  iteK t_5
  (some ((⟨#[]⟩ : ByteArray), false))
  (Option.bind (Go.Proofs.YtlljmgphgmklcaaDoor.GsL1Num.P r_0_zone) fun (t_10 : ByteArray) =>
  guardK ((⟨#[122]⟩ : ByteArray).size + t_10.size ≤ maxLen) <|
  letK ((⟨#[122]⟩ : ByteArray) ++ t_10) fun (t_11 : ByteArray) =>
  guardK (t_11.size + (⟨#[32]⟩ : ByteArray).size ≤ maxLen) <|
  letK (t_11 ++ (⟨#[32]⟩ : ByteArray)) fun (t_12 : ByteArray) =>
  Option.bind (Go.Proofs.YtlljmgphgmklcaaDoor.GsL1Num.P r_0_grams) fun (t_15 : ByteArray) =>
  guardK (t_12.size + t_15.size ≤ maxLen) <|
  letK (t_12 ++ t_15) fun (t_16 : ByteArray) =>
  guardK (t_16.size + (⟨#[103, 32]⟩ : ByteArray).size ≤ maxLen) <|
  letK (t_16 ++ (⟨#[103, 32]⟩ : ByteArray)) fun (t_17 : ByteArray) =>
  Option.bind (Go.Proofs.YtlljmgphgmklcaaDoor.GsL1Num.P r_0_from_) fun (t_20 : ByteArray) =>
  guardK (t_17.size + t_20.size ≤ maxLen) <|
  letK (t_17 ++ t_20) fun (t_21 : ByteArray) =>
  guardK (t_21.size + (⟨#[46, 46]⟩ : ByteArray).size ≤ maxLen) <|
  letK (t_21 ++ (⟨#[46, 46]⟩ : ByteArray)) fun (t_22 : ByteArray) =>
  Option.bind (Go.Proofs.YtlljmgphgmklcaaDoor.GsL1Num.P r_0_until_) fun (t_25 : ByteArray) =>
  guardK (t_22.size + t_25.size ≤ maxLen) <|
  letK (t_22 ++ t_25) fun (t_26 : ByteArray) =>
  guardK (t_26.size + (⟨#[32]⟩ : ByteArray).size ≤ maxLen) <|
  letK (t_26 ++ (⟨#[32]⟩ : ByteArray)) fun (t_27 : ByteArray) =>
  Option.bind (Go.Proofs.YtlljmgphgmklcaaDoor.GsL1Num.P r_0_cents) fun (t_30 : ByteArray) =>
  guardK (t_27.size + t_30.size ≤ maxLen) <|
  letK (t_27 ++ t_30) fun (t_31 : ByteArray) =>
  guardK (t_31.size + (⟨#[99]⟩ : ByteArray).size ≤ maxLen) <|
  letK (t_31 ++ (⟨#[99]⟩ : ByteArray)) fun (t_32 : ByteArray) =>
  some (t_32, true))

set_option maxRecDepth 100000 in
set_option maxHeartbeats 2000000 in
theorem C (r_0 : Go.Proofs.YtlljmgphgmklcaaDoor.PRate.Rate)   (w : World)   {r0 : ByteArray} {r1 : Bool} (H : Hid (P r_0 = some (r0, r1))) :
    Calls Tryd.prog 20 #[r_0.val] w (Gives (.tuple #[.string r0, .bool r1]) w) := by
  have HB := Lib.hid (Below.refl w.heap.size w)
  unfold P at H
  obtain ⟨r_0_zone, r_0_grams, r_0_from_, r_0_until_, r_0_cents⟩ := r_0
  replace H := unRate_hid H
  unfold Go.Proofs.YtlljmgphgmklcaaDoor.PRate.Rate.val
  go_enter Tryd.func20, Tryd.ntmps20
  obtain ⟨w_r_0, hw_r_0⟩ : ∃ x, w.alloc (.cells #[.int .i64 r_0_zone, .int .i64 r_0_grams, .int .i64 r_0_from_, .int .i64 r_0_until_, .int .i64 r_0_cents] 38) = x := ⟨_, rfl⟩
  have bw_r_0 : Below w.heap.size w w_r_0 := by rw [← hw_r_0]; exact (Below.refl _ _).alloc (Nat.le_refl _) _
  have HBw_r_0 := Lib.hid (Below.step HB.out bw_r_0)
  clear bw_r_0
  have kr_0_0 : w_r_0.cell? ⟨w.heap.size, 0, none⟩ = some (.int .i64 r_0_zone) := by rw [← hw_r_0]; exact box_new _ _ _ 0 _ rfl
  have kr_0_1 : w_r_0.cell? ⟨w.heap.size, 1, none⟩ = some (.int .i64 r_0_grams) := by rw [← hw_r_0]; exact box_new _ _ _ 1 _ rfl
  have kr_0_2 : w_r_0.cell? ⟨w.heap.size, 2, none⟩ = some (.int .i64 r_0_from_) := by rw [← hw_r_0]; exact box_new _ _ _ 2 _ rfl
  have kr_0_3 : w_r_0.cell? ⟨w.heap.size, 3, none⟩ = some (.int .i64 r_0_until_) := by rw [← hw_r_0]; exact box_new _ _ _ 3 _ rfl
  have kr_0_4 : w_r_0.cell? ⟨w.heap.size, 4, none⟩ = some (.int .i64 r_0_cents) := by rw [← hw_r_0]; exact box_new _ _ _ 4 _ rfl
  replace H := bind_hid H
  obtain ⟨t_4, qt_4, H⟩ := H
  go_wp2_with fail
  go_at_call 40
  refine (Go.Proofs.YtlljmgphgmklcaaDoor.GsL8One.C ((Go.Proofs.YtlljmgphgmklcaaDoor.PRate.Rate.mk r_0_zone r_0_grams r_0_from_ r_0_until_ r_0_cents))  _    qt_4).mono ?_
  rintro e_t_4 wt_4 ⟨rfl, bt_4⟩
  have HBwt_4 := Lib.hid (Below.step HBw_r_0.out bt_4)
  replace kr_0_0 := cell_below bt_4 kr_0_0
  replace kr_0_1 := cell_below bt_4 kr_0_1
  replace kr_0_2 := cell_below bt_4 kr_0_2
  replace kr_0_3 := cell_below bt_4 kr_0_3
  replace kr_0_4 := cell_below bt_4 kr_0_4
  clear bt_4
  cases t_4 with
  | false =>
    replace H := let_hid H
    obtain ⟨t_5, ht_5, H⟩ := H
    obtain rfl : t_5 = true := ht_5.symm
    replace H := ite_t H
    cases ret_hid H
    go_wp2_with fail
    go_ret2
    exact ⟨rfl, HBwt_4.out⟩
  | true =>
    replace H := let_hid H
    obtain ⟨t_5, ht_5, H⟩ := H
    obtain rfl : t_5 = false := ht_5.symm
    replace H := ite_f H
    go_wp2_with fail
    have Hkr_0_0 := Lib.hid kr_0_0
    replace kr_0_0 := cell_regrown kr_0_0
    have Hkr_0_1 := Lib.hid kr_0_1
    replace kr_0_1 := cell_regrown kr_0_1
    have Hkr_0_2 := Lib.hid kr_0_2
    replace kr_0_2 := cell_regrown kr_0_2
    have Hkr_0_3 := Lib.hid kr_0_3
    replace kr_0_3 := cell_regrown kr_0_3
    have Hkr_0_4 := Lib.hid kr_0_4
    replace kr_0_4 := cell_regrown kr_0_4
    replace H := bind_hid H
    obtain ⟨t_10, qt_10, H⟩ := H
    have nt_10 : ∀ d os, Calls Tryd.prog 41 #[.int .i64 r_0_zone] (Go.Sort.grow (redrawn wt_4 d) os) fun e w'' => e = .returned (.string t_10) ∧ ∃ p : Regrown, w'' = Go.Sort.grow (redrawn wt_4 p.d) p.os := fun d os => Calls.regrown_of (Go.Proofs.YtlljmgphgmklcaaDoor.GsL1Num.C (r_0_zone)  _    qt_10)
    replace H := guard_hid H
    obtain ⟨hl_t_11, H⟩ := H
    replace H := let_hid H
    obtain ⟨t_11, ht_11, H⟩ := H
    have ct_11 := cat_rule (P := Tryd.prog) ht_11 hl_t_11
    clear hl_t_11
    have hht_11 := Lib.hid ht_11
    clear ht_11
    replace H := guard_hid H
    obtain ⟨hl_t_12, H⟩ := H
    replace H := let_hid H
    obtain ⟨t_12, ht_12, H⟩ := H
    have ct_12 := cat_rule (P := Tryd.prog) ht_12 hl_t_12
    clear hl_t_12
    have hht_12 := Lib.hid ht_12
    clear ht_12
    replace H := bind_hid H
    obtain ⟨t_15, qt_15, H⟩ := H
    have nt_15 : ∀ d os, Calls Tryd.prog 41 #[.int .i64 r_0_grams] (Go.Sort.grow (redrawn wt_4 d) os) fun e w'' => e = .returned (.string t_15) ∧ ∃ p : Regrown, w'' = Go.Sort.grow (redrawn wt_4 p.d) p.os := fun d os => Calls.regrown_of (Go.Proofs.YtlljmgphgmklcaaDoor.GsL1Num.C (r_0_grams)  _    qt_15)
    replace H := guard_hid H
    obtain ⟨hl_t_16, H⟩ := H
    replace H := let_hid H
    obtain ⟨t_16, ht_16, H⟩ := H
    have ct_16 := cat_rule (P := Tryd.prog) ht_16 hl_t_16
    clear hl_t_16
    have hht_16 := Lib.hid ht_16
    clear ht_16
    replace H := guard_hid H
    obtain ⟨hl_t_17, H⟩ := H
    replace H := let_hid H
    obtain ⟨t_17, ht_17, H⟩ := H
    have ct_17 := cat_rule (P := Tryd.prog) ht_17 hl_t_17
    clear hl_t_17
    have hht_17 := Lib.hid ht_17
    clear ht_17
    replace H := bind_hid H
    obtain ⟨t_20, qt_20, H⟩ := H
    have nt_20 : ∀ d os, Calls Tryd.prog 41 #[.int .i64 r_0_from_] (Go.Sort.grow (redrawn wt_4 d) os) fun e w'' => e = .returned (.string t_20) ∧ ∃ p : Regrown, w'' = Go.Sort.grow (redrawn wt_4 p.d) p.os := fun d os => Calls.regrown_of (Go.Proofs.YtlljmgphgmklcaaDoor.GsL1Num.C (r_0_from_)  _    qt_20)
    replace H := guard_hid H
    obtain ⟨hl_t_21, H⟩ := H
    replace H := let_hid H
    obtain ⟨t_21, ht_21, H⟩ := H
    have ct_21 := cat_rule (P := Tryd.prog) ht_21 hl_t_21
    clear hl_t_21
    have hht_21 := Lib.hid ht_21
    clear ht_21
    replace H := guard_hid H
    obtain ⟨hl_t_22, H⟩ := H
    replace H := let_hid H
    obtain ⟨t_22, ht_22, H⟩ := H
    have ct_22 := cat_rule (P := Tryd.prog) ht_22 hl_t_22
    clear hl_t_22
    have hht_22 := Lib.hid ht_22
    clear ht_22
    replace H := bind_hid H
    obtain ⟨t_25, qt_25, H⟩ := H
    have nt_25 : ∀ d os, Calls Tryd.prog 41 #[.int .i64 r_0_until_] (Go.Sort.grow (redrawn wt_4 d) os) fun e w'' => e = .returned (.string t_25) ∧ ∃ p : Regrown, w'' = Go.Sort.grow (redrawn wt_4 p.d) p.os := fun d os => Calls.regrown_of (Go.Proofs.YtlljmgphgmklcaaDoor.GsL1Num.C (r_0_until_)  _    qt_25)
    replace H := guard_hid H
    obtain ⟨hl_t_26, H⟩ := H
    replace H := let_hid H
    obtain ⟨t_26, ht_26, H⟩ := H
    have ct_26 := cat_rule (P := Tryd.prog) ht_26 hl_t_26
    clear hl_t_26
    have hht_26 := Lib.hid ht_26
    clear ht_26
    replace H := guard_hid H
    obtain ⟨hl_t_27, H⟩ := H
    replace H := let_hid H
    obtain ⟨t_27, ht_27, H⟩ := H
    have ct_27 := cat_rule (P := Tryd.prog) ht_27 hl_t_27
    clear hl_t_27
    have hht_27 := Lib.hid ht_27
    clear ht_27
    replace H := bind_hid H
    obtain ⟨t_30, qt_30, H⟩ := H
    have nt_30 : ∀ d os, Calls Tryd.prog 41 #[.int .i64 r_0_cents] (Go.Sort.grow (redrawn wt_4 d) os) fun e w'' => e = .returned (.string t_30) ∧ ∃ p : Regrown, w'' = Go.Sort.grow (redrawn wt_4 p.d) p.os := fun d os => Calls.regrown_of (Go.Proofs.YtlljmgphgmklcaaDoor.GsL1Num.C (r_0_cents)  _    qt_30)
    replace H := guard_hid H
    obtain ⟨hl_t_31, H⟩ := H
    replace H := let_hid H
    obtain ⟨t_31, ht_31, H⟩ := H
    have ct_31 := cat_rule (P := Tryd.prog) ht_31 hl_t_31
    clear hl_t_31
    have hht_31 := Lib.hid ht_31
    clear ht_31
    replace H := guard_hid H
    obtain ⟨hl_t_32, H⟩ := H
    replace H := let_hid H
    obtain ⟨t_32, ht_32, H⟩ := H
    have ct_32 := cat_rule (P := Tryd.prog) ht_32 hl_t_32
    clear hl_t_32
    have hht_32 := Lib.hid ht_32
    clear ht_32
    refine wp_region_quiet_below (by kernel_rfl) (by kernel_rfl) ?_
    repeat (go_big_quiet_step (first | (go_at_call 41; with_reducible exact nt_10 _ _) | (go_at_call 41; with_reducible exact nt_15 _ _) | (go_at_call 41; with_reducible exact nt_20 _ _) | (go_at_call 41; with_reducible exact nt_25 _ _) | (go_at_call 41; with_reducible exact nt_30 _ _) | (go_at_call 41; exact nt_10 _ _) | (go_at_call 41; exact nt_15 _ _) | (go_at_call 41; exact nt_20 _ _) | (go_at_call 41; exact nt_25 _ _) | (go_at_call 41; exact nt_30 _ _)))
    refine wpQuiet_nil ?_
    intro Y3 hY3
    replace hY3 := below_class hY3
    clear nt_10 nt_15 nt_20 nt_25 nt_30
    replace kr_0_0 := Hkr_0_0.out
    clear Hkr_0_0
    replace kr_0_1 := Hkr_0_1.out
    clear Hkr_0_1
    replace kr_0_2 := Hkr_0_2.out
    clear Hkr_0_2
    replace kr_0_3 := Hkr_0_3.out
    clear Hkr_0_3
    replace kr_0_4 := Hkr_0_4.out
    clear Hkr_0_4
    have HBY3 := Lib.hid (Below.step HBwt_4.out hY3)
    replace kr_0_0 := cell_below hY3 kr_0_0
    replace kr_0_1 := cell_below hY3 kr_0_1
    replace kr_0_2 := cell_below hY3 kr_0_2
    replace kr_0_3 := cell_below hY3 kr_0_3
    replace kr_0_4 := cell_below hY3 kr_0_4
    clear hY3
    cases ret_hid H
    go_wp2_with fail
    go_ret2
    exact ⟨rfl, HBY3.out⟩
end Go.Proofs.YtlljmgphgmklcaaDoor.GsRateText

