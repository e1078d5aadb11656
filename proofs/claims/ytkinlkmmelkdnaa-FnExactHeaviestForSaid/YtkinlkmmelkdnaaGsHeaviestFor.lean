/- loop.example/g01062/spec.HeaviestFor as a plain function, and the contract of the program's: where the plain one has an answer, the program has it. Conditions: slices read as lists. -/
import Derived.Test.YtkinlkmmelkdnaaChecked
import Derived.Test.YtkinlkmmelkdnaaGoM
import Derived.Test.YtkinlkmmelkdnaaGoRRate
import Derived.Test.YtkinlkmmelkdnaaORate
import Derived.Test.YtkinlkmmelkdnaaGsL8Good
import Derived.Test.YtkinlkmmelkdnaaGsL2Day
import Derived.Test.YtkinlkmmelkdnaaGsL8Zone
import Derived.Test.YtkinlkmmelkdnaaGsL8Cents
import Derived.Test.YtkinlkmmelkdnaaGsL1In
import Derived.WalkKit
import Derived.WalkSpells
import Derived.WalkLawsBesides
import Derived.BigQuiet
import Derived.OwnWalk
import Derived.Deep.LoopGhost
import Derived.Deep.QuietTactic
import Derived.IntWalk
import Derived.Lib.QuietBelow
namespace Go.Proofs.Ytkinlkmmelkdnaa.GsHeaviestFor
set_option linter.unusedVariables false
set_option linter.unusedSimpArgs false
open Go.RowKit
open Go.Proofs.Ytkinlkmmelkdnaa.Rowed Go.Proofs.Ytkinlkmmelkdnaa.Turn Go.Proofs.Ytkinlkmmelkdnaa.Aid Go.Proofs.Ytkinlkmmelkdnaa.GoP Go.Proofs.Ytkinlkmmelkdnaa.GoM

def l0 (list : (List Go.Proofs.Ytkinlkmmelkdnaa.PRate.Rate)) (day : Int) (zone : Int) (cents : Int) (k0 : Nat) (s : Int) (nx0 bk0 : Int → Option (Int × Bool)) : Option (Int × Bool) :=
  letK s fun best_10l0 =>
  Option.bind (idx list (k0 : Int)) fun (yt_30 : Go.Proofs.Ytkinlkmmelkdnaa.PRate.Rate) =>
  unRate yt_30 fun (t_30_zone : Int) (t_30_grams : Int) (t_30_from_ : Int) (t_30_until_ : Int) (t_30_cents : Int) =>
  letK (t_30_zone == zone) fun (t_37 : Bool) =>
  joinK (fun (t_45 : Bool) =>
  joinK (fun (t_51 : Bool) =>
  iteK t_51
  (appK nx0 (t_30_grams))
  (appK nx0 (best_10l0))) fun jt_51 => iteK t_45 (letK (decide (t_30_cents ≤ cents)) fun (t_50 : Bool) =>
  appK jt_51 t_50) (appK jt_51 false)) fun jt_45 => iteK t_37 (Option.bind (Go.Proofs.Ytkinlkmmelkdnaa.GsL1In.P day t_30_from_ t_30_until_) fun (t_44 : Bool) =>
  appK jt_45 t_44) (appK jt_45 false)

def e0  (s : Int) : Option (Int × Bool) :=
  letK s fun best_10l0 =>
  letK (decide (0 < best_10l0)) fun (t_60 : Bool) =>
  some (best_10l0, t_60)

def P (fuel : Nat) (list : (List Go.Proofs.Ytkinlkmmelkdnaa.PRate.Rate)) (day : Int) (zone : Int) (cents : Int) : Option (Int × Bool) :=
  Option.bind (Go.Proofs.Ytkinlkmmelkdnaa.GsL8Good.P fuel list) fun (t_3 : Bool) =>
  letK (!t_3) fun (t_4 : Bool) =>
  joinK (fun (t_9 : Bool) =>
  joinK (fun (t_14 : Bool) =>
  joinK (fun (t_19 : Bool) =>
  iteK t_19
  (some (0, false))
  (cntK (l0 list day zone cents) (list.length) 0 (0) (e0 ))) fun jt_19 => iteK t_14 (appK jt_19 true) (Option.bind (Go.Proofs.Ytkinlkmmelkdnaa.GsL8Cents.P cents) fun (t_17 : Bool) =>
  letK (!t_17) fun (t_18 : Bool) =>
  appK jt_19 t_18)) fun jt_14 => iteK t_9 (appK jt_14 true) (Option.bind (Go.Proofs.Ytkinlkmmelkdnaa.GsL8Zone.P zone) fun (t_12 : Bool) =>
  letK (!t_12) fun (t_13 : Bool) =>
  appK jt_14 t_13)) fun jt_9 => iteK t_4 (appK jt_9 true) (Option.bind (Go.Proofs.Ytkinlkmmelkdnaa.GsL2Day.P day) fun (t_7 : Bool) =>
  letK (!t_7) fun (t_8 : Bool) =>
  appK jt_9 t_8)

set_option maxRecDepth 100000 in
set_option maxHeartbeats 2000000 in
theorem C (fuel : Nat) (list : (List Go.Proofs.Ytkinlkmmelkdnaa.PRate.Rate)) (day : Int) (zone : Int) (cents : Int) (A0 : Option Addr) (c0 : Nat)  (w : World) (M0 : Hid (Cells w 5 A0 list.length (Go.Proofs.Ytkinlkmmelkdnaa.PRate.flat list))) (N0 : Hid (list.length ≤ 9223372036854775807))  {r0 : Int} {r1 : Bool} (H : Hid (P fuel list day zone cents = some (r0, r1))) :
    Calls Try.prog 32 #[.slice A0 list.length c0, .int .i64 day, .int .i64 zone, .int .i64 cents] w (Gives (.tuple #[.int .i64 r0, .bool r1]) w) := by
  have HB := Lib.hid (Below.refl w.heap.size w)
  unfold P at H
  have N0o := N0.out
  go_enter Try.func32, Try.ntmps32
  replace H := bind_hid H
  obtain ⟨t_3, qt_3, H⟩ := H
  go_wp2_with fail
  go_at_call 75
  refine (Go.Proofs.Ytkinlkmmelkdnaa.GsL8Good.C fuel (list) A0 c0 _   (Lib.hid (Cells.below M0.out HB.out)) N0 qt_3).mono ?_
  rintro e_t_3 wt_3 ⟨rfl, bt_3⟩
  have HBwt_3 := Lib.hid (Below.step HB.out bt_3)
  clear bt_3
  cases t_3 with
  | false =>
    replace H := let_hid H
    obtain ⟨t_4, ht_4, H⟩ := H
    obtain rfl : t_4 = true := ht_4.symm
    replace H := join_hid H
    replace H := ite_t H
    replace H := app_hid H
    replace H := join_hid H
    replace H := ite_t H
    replace H := app_hid H
    replace H := join_hid H
    replace H := ite_t H
    replace H := app_hid H
    replace H := ite_t H
    cases ret_hid H
    go_wp2_with fail
    go_ret2
    exact ⟨rfl, HBwt_3.out⟩
  | true =>
    replace H := let_hid H
    obtain ⟨t_4, ht_4, H⟩ := H
    obtain rfl : t_4 = false := ht_4.symm
    replace H := join_hid H
    replace H := ite_f H
    replace H := bind_hid H
    obtain ⟨t_7, qt_7, H⟩ := H
    go_wp2_with fail
    go_at_call 78
    refine (Go.Proofs.Ytkinlkmmelkdnaa.GsL2Day.C (day)  _    qt_7).mono ?_
    rintro e_t_7 wt_7 ⟨rfl, bt_7⟩
    have HBwt_7 := Lib.hid (Below.step HBwt_3.out bt_7)
    clear bt_7
    cases t_7 with
    | false =>
      replace H := let_hid H
      obtain ⟨t_8, ht_8, H⟩ := H
      obtain rfl : t_8 = true := ht_8.symm
      replace H := app_hid H
      replace H := join_hid H
      replace H := ite_t H
      replace H := app_hid H
      replace H := join_hid H
      replace H := ite_t H
      replace H := app_hid H
      replace H := ite_t H
      cases ret_hid H
      go_wp2_with fail
      go_ret2
      exact ⟨rfl, HBwt_7.out⟩
    | true =>
      replace H := let_hid H
      obtain ⟨t_8, ht_8, H⟩ := H
      obtain rfl : t_8 = false := ht_8.symm
      replace H := app_hid H
      replace H := join_hid H
      replace H := ite_f H
      replace H := bind_hid H
      obtain ⟨t_12, qt_12, H⟩ := H
      go_wp2_with fail
      go_at_call 79
      refine (Go.Proofs.Ytkinlkmmelkdnaa.GsL8Zone.C (zone)  _    qt_12).mono ?_
      rintro e_t_12 wt_12 ⟨rfl, bt_12⟩
      have HBwt_12 := Lib.hid (Below.step HBwt_7.out bt_12)
      clear bt_12
      cases t_12 with
      | false =>
        replace H := let_hid H
        obtain ⟨t_13, ht_13, H⟩ := H
        obtain rfl : t_13 = true := ht_13.symm
        replace H := app_hid H
        replace H := join_hid H
        replace H := ite_t H
        replace H := app_hid H
        replace H := ite_t H
        cases ret_hid H
        go_wp2_with fail
        go_ret2
        exact ⟨rfl, HBwt_12.out⟩
      | true =>
        replace H := let_hid H
        obtain ⟨t_13, ht_13, H⟩ := H
        obtain rfl : t_13 = false := ht_13.symm
        replace H := app_hid H
        replace H := join_hid H
        replace H := ite_f H
        replace H := bind_hid H
        obtain ⟨t_17, qt_17, H⟩ := H
        go_wp2_with fail
        go_at_call 87
        refine (Go.Proofs.Ytkinlkmmelkdnaa.GsL8Cents.C (cents)  _    qt_17).mono ?_
        rintro e_t_17 wt_17 ⟨rfl, bt_17⟩
        have HBwt_17 := Lib.hid (Below.step HBwt_12.out bt_17)
        clear bt_17
        cases t_17 with
        | false =>
          replace H := let_hid H
          obtain ⟨t_18, ht_18, H⟩ := H
          obtain rfl : t_18 = true := ht_18.symm
          replace H := app_hid H
          replace H := ite_t H
          cases ret_hid H
          go_wp2_with fail
          go_ret2
          exact ⟨rfl, HBwt_17.out⟩
        | true =>
          replace H := let_hid H
          obtain ⟨t_18, ht_18, H⟩ := H
          obtain rfl : t_18 = false := ht_18.symm
          replace H := app_hid H
          replace H := ite_f H
          go_wp2_with fail
          go_loopg [11, 10] (list.length) (fun m_ v11_ v10_ wr => ∃ (k0 : Nat) (best_10l0 : Int), k0 + m_ = list.length ∧ v11_ = .int .i64 (k0 : Int) ∧ v10_ = .int .i64 best_10l0 ∧ Hid (cntK (l0 list day zone cents) m_ k0 (best_10l0) (e0 ) = some (r0, r1)) ∧ Hid (Below w.heap.size w wr))
          case atStart => exact ⟨0, _, by omega, rfl, rfl, H, HBwt_17⟩
          case round =>
            obtain ⟨k0, best_10l0, hkm0, rfl, rfl, H, HBwr0⟩ := hrel
            rename World => wr0
            cases gk with
            | zero =>
              obtain rfl : k0 = list.length := by omega
              have hc0 : decide (((list.length : Nat) : Int) < ((list.length : Nat) : Int)) = false := by simp
              replace H := cnt_zero H
              unfold e0 at H
              replace H := let_hid H
              obtain ⟨_, rfl, H⟩ := H
              replace H := let_hid H
              obtain ⟨t_60, ht_60, H⟩ := H
              cases ret_hid H
              go_wp2_with fail
              go_ret2
              exact ⟨rfl, HBwr0.out⟩
            | succ m0 =>
              have hlt0 : k0 < list.length := by omega
              have hc0 : decide ((k0 : Int) < ((list.length : Nat) : Int)) = true := by simp; omega
              replace H := cnt_succ H
              unfold l0 at H
              replace H := let_hid H
              obtain ⟨_, rfl, H⟩ := H
              replace H := idx_hid H
              obtain ⟨nt_30, yt_30, et_30, lt_30, gt_30, H⟩ := H
              obtain rfl : k0 = nt_30 := by omega
              clear et_30
              obtain ⟨t_30_zone, t_30_grams, t_30_from_, t_30_until_, t_30_cents⟩ := yt_30
              replace H := unRate_hid H
              obtain ⟨ab_t_30, ao_t_30, zt_30, At_30, z_t_30, ct_30_0, ct_30_1, ct_30_2, ct_30_3, ct_30_4⟩ := Go.Proofs.Ytkinlkmmelkdnaa.ORate.at_ M0.out lt_30
              obtain rfl := Option.some.inj (gt_30.out.symm.trans z_t_30)
              subst At_30
              have ltt_30 := cell_lt ct_30_0
              replace ct_30_0 := cell_below HBwr0.out ct_30_0
              replace ct_30_1 := cell_below HBwr0.out ct_30_1
              replace ct_30_2 := cell_below HBwr0.out ct_30_2
              replace ct_30_3 := cell_below HBwr0.out ct_30_3
              replace ct_30_4 := cell_below HBwr0.out ct_30_4
              clear z_t_30
              have b0t_30 : (0 : Int) ≤ (k0 : Int) := by omega
              have b1t_30 : (k0 : Int) < ((list.length : Nat) : Int) := by omega
              have b2t_30 : ((k0 : Int)).toNat = k0 := by omega
              obtain ⟨w_r_32, hw_r_32⟩ : ∃ x, wr0.alloc (.cells #[.int .i64 t_30_zone, .int .i64 t_30_grams, .int .i64 t_30_from_, .int .i64 t_30_until_, .int .i64 t_30_cents] 25) = x := ⟨_, rfl⟩
              have bw_r_32 : Below wr0.heap.size wr0 w_r_32 := by rw [← hw_r_32]; exact (Below.refl _ _).alloc (Nat.le_refl _) _
              have HBw_r_32 := Lib.hid (Below.step HBwr0.out bw_r_32)
              have ct_30_0__160 := cell_below bw_r_32 ct_30_0
              have ct_30_1__161 := cell_below bw_r_32 ct_30_1
              have ct_30_2__162 := cell_below bw_r_32 ct_30_2
              have ct_30_3__163 := cell_below bw_r_32 ct_30_3
              have ct_30_4__164 := cell_below bw_r_32 ct_30_4
              clear bw_r_32
              have kr_32_0 : w_r_32.cell? ⟨wr0.heap.size, 0, none⟩ = some (.int .i64 t_30_zone) := by rw [← hw_r_32]; exact box_new _ _ _ 0 _ rfl
              have kr_32_1 : w_r_32.cell? ⟨wr0.heap.size, 1, none⟩ = some (.int .i64 t_30_grams) := by rw [← hw_r_32]; exact box_new _ _ _ 1 _ rfl
              have kr_32_2 : w_r_32.cell? ⟨wr0.heap.size, 2, none⟩ = some (.int .i64 t_30_from_) := by rw [← hw_r_32]; exact box_new _ _ _ 2 _ rfl
              have kr_32_3 : w_r_32.cell? ⟨wr0.heap.size, 3, none⟩ = some (.int .i64 t_30_until_) := by rw [← hw_r_32]; exact box_new _ _ _ 3 _ rfl
              have kr_32_4 : w_r_32.cell? ⟨wr0.heap.size, 4, none⟩ = some (.int .i64 t_30_cents) := by rw [← hw_r_32]; exact box_new _ _ _ 4 _ rfl
              replace H := let_hid H
              obtain ⟨t_37, ht_37, H⟩ := H
              replace H := join_hid H
              cases t_37 with
              | false =>
                replace H := ite_f H
                replace H := app_hid H
                replace H := join_hid H
                replace H := ite_f H
                replace H := app_hid H
                replace H := ite_f H
                replace H := app_hid H
                go_wp2_with fail
                clear ct_30_0 ct_30_1 ct_30_2 ct_30_3 ct_30_4
                go_roundg m0
                case measure => omega
                case rel => exact ⟨k0 + 1, _, by omega, by go_num, rfl, H, HBw_r_32⟩
              | true =>
                replace H := ite_t H
                replace H := bind_hid H
                obtain ⟨t_44, qt_44, H⟩ := H
                go_wp2_with fail
                clear ct_30_0 ct_30_1 ct_30_2 ct_30_3 ct_30_4
                go_at_call 88
                refine (Go.Proofs.Ytkinlkmmelkdnaa.GsL1In.C (day) (t_30_from_) (t_30_until_)  _    qt_44).mono ?_
                rintro e_t_44 wt_44 ⟨rfl, bt_44⟩
                have HBwt_44 := Lib.hid (Below.step HBw_r_32.out bt_44)
                replace ct_30_0__160 := cell_below bt_44 ct_30_0__160
                replace ct_30_1__161 := cell_below bt_44 ct_30_1__161
                replace ct_30_2__162 := cell_below bt_44 ct_30_2__162
                replace ct_30_3__163 := cell_below bt_44 ct_30_3__163
                replace ct_30_4__164 := cell_below bt_44 ct_30_4__164
                replace kr_32_0 := cell_below bt_44 kr_32_0
                replace kr_32_1 := cell_below bt_44 kr_32_1
                replace kr_32_2 := cell_below bt_44 kr_32_2
                replace kr_32_3 := cell_below bt_44 kr_32_3
                replace kr_32_4 := cell_below bt_44 kr_32_4
                clear bt_44
                replace H := app_hid H
                replace H := join_hid H
                cases t_44 with
                | false =>
                  replace H := ite_f H
                  replace H := app_hid H
                  replace H := ite_f H
                  replace H := app_hid H
                  go_wp2_with fail
                  go_roundg m0
                  case measure => omega
                  case rel => exact ⟨k0 + 1, _, by omega, by go_num, rfl, H, HBwt_44⟩
                | true =>
                  replace H := ite_t H
                  replace H := let_hid H
                  obtain ⟨t_50, ht_50, H⟩ := H
                  replace H := app_hid H
                  cases t_50 with
                  | false =>
                    replace H := ite_f H
                    replace H := app_hid H
                    go_wp2_with fail
                    go_roundg m0
                    case measure => omega
                    case rel => exact ⟨k0 + 1, _, by omega, by go_num, rfl, H, HBwt_44⟩
                  | true =>
                    replace H := ite_t H
                    replace H := app_hid H
                    go_wp2_with fail
                    go_roundg m0
                    case measure => omega
                    case rel => exact ⟨k0 + 1, _, by omega, by go_num, rfl, H, HBwt_44⟩
end Go.Proofs.Ytkinlkmmelkdnaa.GsHeaviestFor
