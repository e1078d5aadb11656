/- loop.example/g01062/impl.HeaviestFor as a plain function, and the contract of the program's: where the plain one has an answer, the program has it. Conditions: slices read as lists. -/
import Derived.Test.YtkinlkmmelkdnaaChecked
import Derived.Test.YtkinlkmmelkdnaaGoM
import Derived.Test.YtkinlkmmelkdnaaGoRRate
import Derived.Test.YtkinlkmmelkdnaaORate
import Derived.Test.YtkinlkmmelkdnaaGiAreRates
import Derived.Test.YtkinlkmmelkdnaaGiIsDay
import Derived.Test.YtkinlkmmelkdnaaGiIsZone
import Derived.Test.YtkinlkmmelkdnaaGiIsRateCents
import Derived.Test.YtkinlkmmelkdnaaGiWithin
import Derived.WalkKit
import Derived.WalkSpells
import Derived.WalkLawsBesides
import Derived.BigQuiet
import Derived.OwnWalk
import Derived.Deep.LoopGhost
import Derived.Deep.QuietTactic
import Derived.IntWalk
import Derived.Lib.QuietBelow
namespace Go.Proofs.Ytkinlkmmelkdnaa.GiHeaviestFor
set_option linter.unusedVariables false
set_option linter.unusedSimpArgs false
open Go.RowKit
open Go.Proofs.Ytkinlkmmelkdnaa.Rowed Go.Proofs.Ytkinlkmmelkdnaa.Turn Go.Proofs.Ytkinlkmmelkdnaa.Aid Go.Proofs.Ytkinlkmmelkdnaa.GoP Go.Proofs.Ytkinlkmmelkdnaa.GoM

def l0 (list : (List Go.Proofs.Ytkinlkmmelkdnaa.PRate.Rate)) (day : Int) (zone : Int) (cents : Int) (k0 : Nat) (s : Int) (nx0 bk0 : Int → Option (Int × Bool)) : Option (Int × Bool) :=
  letK s fun heaviest_10l0 =>
  Option.bind (idx list (k0 : Int)) fun (yt_27 : Go.Proofs.Ytkinlkmmelkdnaa.PRate.Rate) =>
  unRate yt_27 fun (t_27_zone : Int) (t_27_grams : Int) (t_27_from_ : Int) (t_27_until_ : Int) (t_27_cents : Int) =>
  letK (t_27_zone == zone) fun (t_34 : Bool) =>
  joinK (fun (t_40 : Bool) =>
  joinK (fun (t_48 : Bool) =>
  iteK t_48
  (appK nx0 (t_27_grams))
  (appK nx0 (heaviest_10l0))) fun jt_48 => iteK t_40 (Option.bind (Go.Proofs.Ytkinlkmmelkdnaa.GiWithin.P day t_27_from_ t_27_until_) fun (t_47 : Bool) =>
  appK jt_48 t_47) (appK jt_48 false)) fun jt_40 => iteK t_34 (letK (decide (t_27_cents ≤ cents)) fun (t_39 : Bool) =>
  appK jt_40 t_39) (appK jt_40 false)

def e0  (s : Int) : Option (Int × Bool) :=
  letK s fun heaviest_10l0 =>
  letK (decide (0 < heaviest_10l0)) fun (t_56 : Bool) =>
  some (heaviest_10l0, t_56)

def P (list : (List Go.Proofs.Ytkinlkmmelkdnaa.PRate.Rate)) (day : Int) (zone : Int) (cents : Int) : Option (Int × Bool) :=
  Option.bind (Go.Proofs.Ytkinlkmmelkdnaa.GiAreRates.P list) fun (t_3 : Bool) =>
  letK (!t_3) fun (t_4 : Bool) =>
  joinK (fun (t_9 : Bool) =>
  joinK (fun (t_14 : Bool) =>
  joinK (fun (t_19 : Bool) =>
  iteK t_19
  (some (0, false))
  (cntK (l0 list day zone cents) (list.length) 0 (0) (e0 ))) fun jt_19 => iteK t_14 (appK jt_19 true) (Option.bind (Go.Proofs.Ytkinlkmmelkdnaa.GiIsRateCents.P cents) fun (t_17 : Bool) =>
  letK (!t_17) fun (t_18 : Bool) =>
  appK jt_19 t_18)) fun jt_14 => iteK t_9 (appK jt_14 true) (Option.bind (Go.Proofs.Ytkinlkmmelkdnaa.GiIsZone.P zone) fun (t_12 : Bool) =>
  letK (!t_12) fun (t_13 : Bool) =>
  appK jt_14 t_13)) fun jt_9 => iteK t_4 (appK jt_9 true) (Option.bind (Go.Proofs.Ytkinlkmmelkdnaa.GiIsDay.P day) fun (t_7 : Bool) =>
  letK (!t_7) fun (t_8 : Bool) =>
  appK jt_9 t_8)

set_option maxRecDepth 100000 in
set_option maxHeartbeats 2000000 in
theorem C (list : (List Go.Proofs.Ytkinlkmmelkdnaa.PRate.Rate)) (day : Int) (zone : Int) (cents : Int) (A0 : Option Addr) (c0 : Nat)  (w : World) (M0 : Hid (Cells w 5 A0 list.length (Go.Proofs.Ytkinlkmmelkdnaa.PRate.flat list))) (N0 : Hid (list.length ≤ 9223372036854775807))  {r0 : Int} {r1 : Bool} (H : Hid (P list day zone cents = some (r0, r1))) :
    Calls Try.prog 33 #[.slice A0 list.length c0, .int .i64 day, .int .i64 zone, .int .i64 cents] w (Gives (.tuple #[.int .i64 r0, .bool r1]) w) := by
  have HB := Lib.hid (Below.refl w.heap.size w)
  unfold P at H
  have N0o := N0.out
  go_enter Try.func33, Try.ntmps33
  replace H := bind_hid H
  obtain ⟨t_3, qt_3, H⟩ := H
  go_wp2_with fail
  go_at_call 20
  refine (Go.Proofs.Ytkinlkmmelkdnaa.GiAreRates.C (list) A0 c0 _   (Lib.hid (Cells.below M0.out HB.out)) N0 qt_3).mono ?_
  rintro e_t_3 wt_3 ⟨rfl, bt_3⟩
  have HBwt_3 := Lib.hid (Below.step HB.out bt_3)
  clear bt_3
  cases t_3 with
  | false =>
    replace H := let_hid H
    obtain ⟨t_4, ht_4, H⟩ := H
    obtain rfl : t_4 = true := ht_4.symm
    replace H := join_hid H
    replace H := ite_t H
    replace H := app_hid H
    replace H := join_hid H
    replace H := ite_t H
    replace H := app_hid H
    replace H := join_hid H
    replace H := ite_t H
    replace H := app_hid H
    replace H := ite_t H
    cases ret_hid H
    go_wp2_with fail
    go_ret2
    exact ⟨rfl, HBwt_3.out⟩
  | true =>
    replace H := let_hid H
    obtain ⟨t_4, ht_4, H⟩ := H
    obtain rfl : t_4 = false := ht_4.symm
    replace H := join_hid H
    replace H := ite_f H
    replace H := bind_hid H
    obtain ⟨t_7, qt_7, H⟩ := H
    go_wp2_with fail
    go_at_call 74
    refine (Go.Proofs.Ytkinlkmmelkdnaa.GiIsDay.C (day)  _    qt_7).mono ?_
    rintro e_t_7 wt_7 ⟨rfl, bt_7⟩
    have HBwt_7 := Lib.hid (Below.step HBwt_3.out bt_7)
    clear bt_7
    cases t_7 with
    | false =>
      replace H := let_hid H
      obtain ⟨t_8, ht_8, H⟩ := H
      obtain rfl : t_8 = true := ht_8.symm
      replace H := app_hid H
      replace H := join_hid H
      replace H := ite_t H
      replace H := app_hid H
      replace H := join_hid H
      replace H := ite_t H
      replace H := app_hid H
      replace H := ite_t H
      cases ret_hid H
      go_wp2_with fail
      go_ret2
      exact ⟨rfl, HBwt_7.out⟩
    | true =>
      replace H := let_hid H
      obtain ⟨t_8, ht_8, H⟩ := H
      obtain rfl : t_8 = false := ht_8.symm
      replace H := app_hid H
      replace H := join_hid H
      replace H := ite_f H
      replace H := bind_hid H
      obtain ⟨t_12, qt_12, H⟩ := H
      go_wp2_with fail
      go_at_call 71
      refine (Go.Proofs.Ytkinlkmmelkdnaa.GiIsZone.C (zone)  _    qt_12).mono ?_
      rintro e_t_12 wt_12 ⟨rfl, bt_12⟩
      have HBwt_12 := Lib.hid (Below.step HBwt_7.out bt_12)
      clear bt_12
      cases t_12 with
      | false =>
        replace H := let_hid H
        obtain ⟨t_13, ht_13, H⟩ := H
        obtain rfl : t_13 = true := ht_13.symm
        replace H := app_hid H
        replace H := join_hid H
        replace H := ite_t H
        replace H := app_hid H
        replace H := ite_t H
        cases ret_hid H
        go_wp2_with fail
        go_ret2
        exact ⟨rfl, HBwt_12.out⟩
      | true =>
        replace H := let_hid H
        obtain ⟨t_13, ht_13, H⟩ := H
        obtain rfl : t_13 = false := ht_13.symm
        replace H := app_hid H
        replace H := join_hid H
        replace H := ite_f H
        replace H := bind_hid H
        obtain ⟨t_17, qt_17, H⟩ := H
        go_wp2_with fail
        go_at_call 73
        refine (Go.Proofs.Ytkinlkmmelkdnaa.GiIsRateCents.C (cents)  _    qt_17).mono ?_
        rintro e_t_17 wt_17 ⟨rfl, bt_17⟩
        have HBwt_17 := Lib.hid (Below.step HBwt_12.out bt_17)
        clear bt_17
        cases t_17 with
        | false =>
          replace H := let_hid H
          obtain ⟨t_18, ht_18, H⟩ := H
          obtain rfl : t_18 = true := ht_18.symm
          replace H := app_hid H
          replace H := ite_t H
          cases ret_hid H
          go_wp2_with fail
          go_ret2
          exact ⟨rfl, HBwt_17.out⟩
        | true =>
          replace H := let_hid H
          obtain ⟨t_18, ht_18, H⟩ := H
          obtain rfl : t_18 = false := ht_18.symm
          replace H := app_hid H
          replace H := ite_f H
          go_wp2_with fail
          go_loopg [33, 10] (list.length) (fun m_ v33_ v10_ wr => ∃ (k0 : Nat) (heaviest_10l0 : Int), k0 + m_ = list.length ∧ v33_ = .int .i64 (k0 : Int) ∧ v10_ = .int .i64 heaviest_10l0 ∧ Hid (cntK (l0 list day zone cents) m_ k0 (heaviest_10l0) (e0 ) = some (r0, r1)) ∧ Hid (Below w.heap.size w wr))
          case atStart => exact ⟨0, _, by omega, rfl, rfl, H, HBwt_17⟩
          case round =>
            obtain ⟨k0, heaviest_10l0, hkm0, rfl, rfl, H, HBwr0⟩ := hrel
            rename World => wr0
            cases gk with
            | zero =>
              obtain rfl : k0 = list.length := by omega
              have hc0 : decide (((list.length : Nat) : Int) < ((list.length : Nat) : Int)) = false := by simp
              replace H := cnt_zero H
              unfold e0 at H
              replace H := let_hid H
              obtain ⟨_, rfl, H⟩ := H
              replace H := let_hid H
              obtain ⟨t_56, ht_56, H⟩ := H
              cases ret_hid H
              go_wp2_with fail
              go_ret2
              exact ⟨rfl, HBwr0.out⟩
            | succ m0 =>
              have hlt0 : k0 < list.length := by omega
              have hc0 : decide ((k0 : Int) < ((list.length : Nat) : Int)) = true := by simp; omega
              replace H := cnt_succ H
              unfold l0 at H
              replace H := let_hid H
              obtain ⟨_, rfl, H⟩ := H
              replace H := idx_hid H
              obtain ⟨nt_27, yt_27, et_27, lt_27, gt_27, H⟩ := H
              obtain rfl : k0 = nt_27 := by omega
              clear et_27
              obtain ⟨t_27_zone, t_27_grams, t_27_from_, t_27_until_, t_27_cents⟩ := yt_27
              replace H := unRate_hid H
              obtain ⟨ab_t_27, ao_t_27, zt_27, At_27, z_t_27, ct_27_0, ct_27_1, ct_27_2, ct_27_3, ct_27_4⟩ := Go.Proofs.Ytkinlkmmelkdnaa.ORate.at_ M0.out lt_27
              obtain rfl := Option.some.inj (gt_27.out.symm.trans z_t_27)
              subst At_27
              have ltt_27 := cell_lt ct_27_0
              replace ct_27_0 := cell_below HBwr0.out ct_27_0
              replace ct_27_1 := cell_below HBwr0.out ct_27_1
              replace ct_27_2 := cell_below HBwr0.out ct_27_2
              replace ct_27_3 := cell_below HBwr0.out ct_27_3
              replace ct_27_4 := cell_below HBwr0.out ct_27_4
              clear z_t_27
              have b0t_27 : (0 : Int) ≤ (k0 : Int) := by omega
              have b1t_27 : (k0 : Int) < ((list.length : Nat) : Int) := by omega
              have b2t_27 : ((k0 : Int)).toNat = k0 := by omega
              obtain ⟨w_r_29, hw_r_29⟩ : ∃ x, wr0.alloc (.cells #[.int .i64 t_27_zone, .int .i64 t_27_grams, .int .i64 t_27_from_, .int .i64 t_27_until_, .int .i64 t_27_cents] 25) = x := ⟨_, rfl⟩
              have bw_r_29 : Below wr0.heap.size wr0 w_r_29 := by rw [← hw_r_29]; exact (Below.refl _ _).alloc (Nat.le_refl _) _
              have HBw_r_29 := Lib.hid (Below.step HBwr0.out bw_r_29)
              have ct_27_0__165 := cell_below bw_r_29 ct_27_0
              have ct_27_1__166 := cell_below bw_r_29 ct_27_1
              have ct_27_2__167 := cell_below bw_r_29 ct_27_2
              have ct_27_3__168 := cell_below bw_r_29 ct_27_3
              have ct_27_4__169 := cell_below bw_r_29 ct_27_4
              clear bw_r_29
              have kr_29_0 : w_r_29.cell? ⟨wr0.heap.size, 0, none⟩ = some (.int .i64 t_27_zone) := by rw [← hw_r_29]; exact box_new _ _ _ 0 _ rfl
              have kr_29_1 : w_r_29.cell? ⟨wr0.heap.size, 1, none⟩ = some (.int .i64 t_27_grams) := by rw [← hw_r_29]; exact box_new _ _ _ 1 _ rfl
              have kr_29_2 : w_r_29.cell? ⟨wr0.heap.size, 2, none⟩ = some (.int .i64 t_27_from_) := by rw [← hw_r_29]; exact box_new _ _ _ 2 _ rfl
              have kr_29_3 : w_r_29.cell? ⟨wr0.heap.size, 3, none⟩ = some (.int .i64 t_27_until_) := by rw [← hw_r_29]; exact box_new _ _ _ 3 _ rfl
              have kr_29_4 : w_r_29.cell? ⟨wr0.heap.size, 4, none⟩ = some (.int .i64 t_27_cents) := by rw [← hw_r_29]; exact box_new _ _ _ 4 _ rfl
              replace H := let_hid H
              obtain ⟨t_34, ht_34, H⟩ := H
              replace H := join_hid H
              cases t_34 with
              | false =>
                replace H := ite_f H
                replace H := app_hid H
                replace H := join_hid H
                replace H := ite_f H
                replace H := app_hid H
                replace H := ite_f H
                replace H := app_hid H
                go_wp2_with fail
                clear ct_27_0 ct_27_1 ct_27_2 ct_27_3 ct_27_4
                go_roundg m0
                case measure => omega
                case rel => exact ⟨k0 + 1, _, by omega, by go_num, rfl, H, HBw_r_29⟩
              | true =>
                replace H := ite_t H
                replace H := let_hid H
                obtain ⟨t_39, ht_39, H⟩ := H
                replace H := app_hid H
                replace H := join_hid H
                cases t_39 with
                | false =>
                  replace H := ite_f H
                  replace H := app_hid H
                  replace H := ite_f H
                  replace H := app_hid H
                  go_wp2_with fail
                  clear ct_27_0 ct_27_1 ct_27_2 ct_27_3 ct_27_4
                  go_roundg m0
                  case measure => omega
                  case rel => exact ⟨k0 + 1, _, by omega, by go_num, rfl, H, HBw_r_29⟩
                | true =>
                  replace H := ite_t H
                  replace H := bind_hid H
                  obtain ⟨t_47, qt_47, H⟩ := H
                  go_wp2_with fail
                  clear ct_27_0 ct_27_1 ct_27_2 ct_27_3 ct_27_4
                  go_at_call 86
                  refine (Go.Proofs.Ytkinlkmmelkdnaa.GiWithin.C (day) (t_27_from_) (t_27_until_)  _    qt_47).mono ?_
                  rintro e_t_47 wt_47 ⟨rfl, bt_47⟩
                  have HBwt_47 := Lib.hid (Below.step HBw_r_29.out bt_47)
                  replace ct_27_0__165 := cell_below bt_47 ct_27_0__165
                  replace ct_27_1__166 := cell_below bt_47 ct_27_1__166
                  replace ct_27_2__167 := cell_below bt_47 ct_27_2__167
                  replace ct_27_3__168 := cell_below bt_47 ct_27_3__168
                  replace ct_27_4__169 := cell_below bt_47 ct_27_4__169
                  replace kr_29_0 := cell_below bt_47 kr_29_0
                  replace kr_29_1 := cell_below bt_47 kr_29_1
                  replace kr_29_2 := cell_below bt_47 kr_29_2
                  replace kr_29_3 := cell_below bt_47 kr_29_3
                  replace kr_29_4 := cell_below bt_47 kr_29_4
                  clear bt_47
                  replace H := app_hid H
                  cases t_47 with
                  | false =>
                    replace H := ite_f H
                    replace H := app_hid H
                    go_wp2_with fail
                    go_roundg m0
                    case measure => omega
                    case rel => exact ⟨k0 + 1, _, by omega, by go_num, rfl, H, HBwt_47⟩
                  | true =>
                    replace H := ite_t H
                    replace H := app_hid H
                    go_wp2_with fail
                    go_roundg m0
                    case measure => omega
                    case rel => exact ⟨k0 + 1, _, by omega, by go_num, rfl, H, HBwt_47⟩
end Go.Proofs.Ytkinlkmmelkdnaa.GiHeaviestFor
