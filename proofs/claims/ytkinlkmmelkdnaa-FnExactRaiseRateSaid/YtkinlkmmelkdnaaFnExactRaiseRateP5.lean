/- The texts on which the proof of FnExactRaiseRate stands, one behind the other (5 of 5). No condition of their own. -/
import Derived.Test.YtkinlkmmelkdnaaChecked
import Derived.Test.YtkinlkmmelkdnaaFnExactRaiseRateP1
import Derived.Test.YtkinlkmmelkdnaaFnExactRaiseRateP3
import Derived.WalkKit
import Derived.WalkSpells
import Derived.WalkLawsBesides
import Derived.BigQuiet
import Derived.OwnWalk
import Derived.Deep.LoopGhost
import Derived.Deep.QuietTactic
import Derived.IntWalk
import Derived.Lib.QuietBelow
import Derived.Test.YtkinlkmmelkdnaaFnExactRaiseRateP4
import Derived.Test.YtkinlkmmelkdnaaFnExactRaiseRateP2
/- loop.example/g01062/impl.rateOn as a plain function, and the contract of the program's: where the plain one has an answer, the program has it. Conditions: slices read as lists. -/
namespace Go.Proofs.Ytkinlkmmelkdnaa.GiRateOn
set_option linter.unusedVariables false
set_option linter.unusedSimpArgs false
open Go.RowKit
open Go.Proofs.Ytkinlkmmelkdnaa.Rowed Go.Proofs.Ytkinlkmmelkdnaa.Turn Go.Proofs.Ytkinlkmmelkdnaa.Aid Go.Proofs.Ytkinlkmmelkdnaa.GoP Go.Proofs.Ytkinlkmmelkdnaa.GoM

def l0 (list : (List Go.Proofs.Ytkinlkmmelkdnaa.PRate.Rate)) (day : Int) (zone : Int) (grams : Int) (k0 : Nat) (s : Unit) (nx0 bk0 : Unit → Option (Int)) : Option (Int) :=
  
  Option.bind (idx list (k0 : Int)) fun (yt_5 : Go.Proofs.Ytkinlkmmelkdnaa.PRate.Rate) =>
  unRate yt_5 fun (t_5_zone : Int) (t_5_grams : Int) (t_5_from_ : Int) (t_5_until_ : Int) (t_5_cents : Int) =>
  letK (t_5_zone == zone) fun (t_12 : Bool) =>
  joinK (fun (t_18 : Bool) =>
  joinK (fun (t_26 : Bool) =>
  iteK t_26
  (some t_5_cents)
  (appK nx0 ())) fun jt_26 => iteK t_18 (Option.bind (Go.Proofs.Ytkinlkmmelkdnaa.GiWithin.P day t_5_from_ t_5_until_) fun (t_25 : Bool) =>
  appK jt_26 t_25) (appK jt_26 false)) fun jt_18 => iteK t_12 (letK (decide (grams ≤ t_5_grams)) fun (t_17 : Bool) =>
  appK jt_18 t_17) (appK jt_18 false)

def e0  (s : Unit) : Option (Int) :=
  
  some 0

def P (list : (List Go.Proofs.Ytkinlkmmelkdnaa.PRate.Rate)) (day : Int) (zone : Int) (grams : Int) : Option (Int) :=
  cntK (l0 list day zone grams) (list.length) 0 () (e0 )

set_option maxRecDepth 100000 in
set_option maxHeartbeats 2000000 in
theorem C (list : (List Go.Proofs.Ytkinlkmmelkdnaa.PRate.Rate)) (day : Int) (zone : Int) (grams : Int) (A0 : Option Addr) (c0 : Nat)  (w : World) (M0 : Hid (Cells w 5 A0 list.length (Go.Proofs.Ytkinlkmmelkdnaa.PRate.flat list))) (N0 : Hid (list.length ≤ 9223372036854775807))  {r : Int} (H : Hid (P list day zone grams = some r)) :
    Calls Try.prog 83 #[.slice A0 list.length c0, .int .i64 day, .int .i64 zone, .int .i64 grams] w (Gives (.int .i64 r) w) := by
  have HB := Lib.hid (Below.refl w.heap.size w)
  unfold P at H
  have N0o := N0.out
  go_enter Try.func83, Try.ntmps83
  go_wp2_with fail
  go_loopg [13] (list.length) (fun m_ v13_ wr => ∃ (k0 : Nat) , k0 + m_ = list.length ∧ v13_ = .int .i64 (k0 : Int) ∧ Hid (cntK (l0 list day zone grams) m_ k0 () (e0 ) = some r) ∧ Hid (Below w.heap.size w wr))
  case atStart => exact ⟨0, by omega, rfl, H, HB⟩
  case round =>
    obtain ⟨k0, hkm0, rfl, H, HBwr0⟩ := hrel
    rename World => wr0
    cases gk with
    | zero =>
      obtain rfl : k0 = list.length := by omega
      have hc0 : decide (((list.length : Nat) : Int) < ((list.length : Nat) : Int)) = false := by simp
      replace H := cnt_zero H
      unfold e0 at H
      obtain rfl := ret_hid H
      go_wp2_with fail
      go_ret
      exact ⟨rfl, HBwr0.out⟩
    | succ m0 =>
      have hlt0 : k0 < list.length := by omega
      have hc0 : decide ((k0 : Int) < ((list.length : Nat) : Int)) = true := by simp; omega
      replace H := cnt_succ H
      unfold l0 at H
      replace H := idx_hid H
      obtain ⟨nt_5, yt_5, et_5, lt_5, gt_5, H⟩ := H
      obtain rfl : k0 = nt_5 := by omega
      clear et_5
      obtain ⟨t_5_zone, t_5_grams, t_5_from_, t_5_until_, t_5_cents⟩ := yt_5
      replace H := unRate_hid H
      obtain ⟨ab_t_5, ao_t_5, zt_5, At_5, z_t_5, ct_5_0, ct_5_1, ct_5_2, ct_5_3, ct_5_4⟩ := Go.Proofs.Ytkinlkmmelkdnaa.ORate.at_ M0.out lt_5
      obtain rfl := Option.some.inj (gt_5.out.symm.trans z_t_5)
      subst At_5
      have ltt_5 := cell_lt ct_5_0
      replace ct_5_0 := cell_below HBwr0.out ct_5_0
      replace ct_5_1 := cell_below HBwr0.out ct_5_1
      replace ct_5_2 := cell_below HBwr0.out ct_5_2
      replace ct_5_3 := cell_below HBwr0.out ct_5_3
      replace ct_5_4 := cell_below HBwr0.out ct_5_4
      clear z_t_5
      have b0t_5 : (0 : Int) ≤ (k0 : Int) := by omega
      have b1t_5 : (k0 : Int) < ((list.length : Nat) : Int) := by omega
      have b2t_5 : ((k0 : Int)).toNat = k0 := by omega
      obtain ⟨w_r_7, hw_r_7⟩ : ∃ x, wr0.alloc (.cells #[.int .i64 t_5_zone, .int .i64 t_5_grams, .int .i64 t_5_from_, .int .i64 t_5_until_, .int .i64 t_5_cents] 25) = x := ⟨_, rfl⟩
      have bw_r_7 : Below wr0.heap.size wr0 w_r_7 := by rw [← hw_r_7]; exact (Below.refl _ _).alloc (Nat.le_refl _) _
      have HBw_r_7 := Lib.hid (Below.step HBwr0.out bw_r_7)
      have ct_5_0__150 := cell_below bw_r_7 ct_5_0
      have ct_5_1__151 := cell_below bw_r_7 ct_5_1
      have ct_5_2__152 := cell_below bw_r_7 ct_5_2
      have ct_5_3__153 := cell_below bw_r_7 ct_5_3
      have ct_5_4__154 := cell_below bw_r_7 ct_5_4
      clear bw_r_7
      have kr_7_0 : w_r_7.cell? ⟨wr0.heap.size, 0, none⟩ = some (.int .i64 t_5_zone) := by rw [← hw_r_7]; exact box_new _ _ _ 0 _ rfl
      have kr_7_1 : w_r_7.cell? ⟨wr0.heap.size, 1, none⟩ = some (.int .i64 t_5_grams) := by rw [← hw_r_7]; exact box_new _ _ _ 1 _ rfl
      have kr_7_2 : w_r_7.cell? ⟨wr0.heap.size, 2, none⟩ = some (.int .i64 t_5_from_) := by rw [← hw_r_7]; exact box_new _ _ _ 2 _ rfl
      have kr_7_3 : w_r_7.cell? ⟨wr0.heap.size, 3, none⟩ = some (.int .i64 t_5_until_) := by rw [← hw_r_7]; exact box_new _ _ _ 3 _ rfl
      have kr_7_4 : w_r_7.cell? ⟨wr0.heap.size, 4, none⟩ = some (.int .i64 t_5_cents) := by rw [← hw_r_7]; exact box_new _ _ _ 4 _ rfl
      replace H := let_hid H
      obtain ⟨t_12, ht_12, H⟩ := H
      replace H := join_hid H
      cases t_12 with
      | false =>
        replace H := ite_f H
        replace H := app_hid H
        replace H := join_hid H
        replace H := ite_f H
        replace H := app_hid H
        replace H := ite_f H
        replace H := app_hid H
        go_wp2_with fail
        clear ct_5_0 ct_5_1 ct_5_2 ct_5_3 ct_5_4
        go_roundg m0
        case measure => omega
        case rel => exact ⟨k0 + 1, by omega, by go_num, H, HBw_r_7⟩
      | true =>
        replace H := ite_t H
        replace H := let_hid H
        obtain ⟨t_17, ht_17, H⟩ := H
        replace H := app_hid H
        replace H := join_hid H
        cases t_17 with
        | false =>
          replace H := ite_f H
          replace H := app_hid H
          replace H := ite_f H
          replace H := app_hid H
          go_wp2_with fail
          clear ct_5_0 ct_5_1 ct_5_2 ct_5_3 ct_5_4
          go_roundg m0
          case measure => omega
          case rel => exact ⟨k0 + 1, by omega, by go_num, H, HBw_r_7⟩
        | true =>
          replace H := ite_t H
          replace H := bind_hid H
          obtain ⟨t_25, qt_25, H⟩ := H
          go_wp2_with fail
          clear ct_5_0 ct_5_1 ct_5_2 ct_5_3 ct_5_4
          go_at_call 86
          refine (Go.Proofs.Ytkinlkmmelkdnaa.GiWithin.C (day) (t_5_from_) (t_5_until_)  _    qt_25).mono ?_
          rintro e_t_25 wt_25 ⟨rfl, bt_25⟩
          have HBwt_25 := Lib.hid (Below.step HBw_r_7.out bt_25)
          replace ct_5_0__150 := cell_below bt_25 ct_5_0__150
          replace ct_5_1__151 := cell_below bt_25 ct_5_1__151
          replace ct_5_2__152 := cell_below bt_25 ct_5_2__152
          replace ct_5_3__153 := cell_below bt_25 ct_5_3__153
          replace ct_5_4__154 := cell_below bt_25 ct_5_4__154
          replace kr_7_0 := cell_below bt_25 kr_7_0
          replace kr_7_1 := cell_below bt_25 kr_7_1
          replace kr_7_2 := cell_below bt_25 kr_7_2
          replace kr_7_3 := cell_below bt_25 kr_7_3
          replace kr_7_4 := cell_below bt_25 kr_7_4
          clear bt_25
          replace H := app_hid H
          cases t_25 with
          | false =>
            replace H := ite_f H
            replace H := app_hid H
            go_wp2_with fail
            go_roundg m0
            case measure => omega
            case rel => exact ⟨k0 + 1, by omega, by go_num, H, HBwt_25⟩
          | true =>
            replace H := ite_t H
            obtain rfl := ret_hid H
            go_wp2_with fail
            go_ret
            exact ⟨rfl, HBwt_25.out⟩
end Go.Proofs.Ytkinlkmmelkdnaa.GiRateOn

/- loop.example/g01062/spec.l8For as a plain function, and the contract of the program's: where the plain one has an answer, the program has it. Conditions: slices read as lists. -/
namespace Go.Proofs.Ytkinlkmmelkdnaa.GsL8For
set_option linter.unusedVariables false
set_option linter.unusedSimpArgs false
open Go.RowKit
open Go.Proofs.Ytkinlkmmelkdnaa.Rowed Go.Proofs.Ytkinlkmmelkdnaa.Turn Go.Proofs.Ytkinlkmmelkdnaa.Aid Go.Proofs.Ytkinlkmmelkdnaa.GoP Go.Proofs.Ytkinlkmmelkdnaa.GoM

def l0 (list : (List Go.Proofs.Ytkinlkmmelkdnaa.PRate.Rate)) (day : Int) (zone : Int) (grams : Int) (k0 : Nat) (s : Unit) (nx0 bk0 : Unit → Option (Int)) : Option (Int) :=
  
  Option.bind (idx list (k0 : Int)) fun (yt_8 : Go.Proofs.Ytkinlkmmelkdnaa.PRate.Rate) =>
  unRate yt_8 fun (t_8_zone : Int) (t_8_grams : Int) (t_8_from_ : Int) (t_8_until_ : Int) (t_8_cents : Int) =>
  letK (t_8_zone == zone) fun (t_15 : Bool) =>
  joinK (fun (t_21 : Bool) =>
  joinK (fun (t_29 : Bool) =>
  iteK t_29
  (some t_8_cents)
  (appK nx0 ())) fun jt_29 => iteK t_21 (Option.bind (Go.Proofs.Ytkinlkmmelkdnaa.GsL1In.P day t_8_from_ t_8_until_) fun (t_28 : Bool) =>
  appK jt_29 t_28) (appK jt_29 false)) fun jt_21 => iteK t_15 (letK (decide (grams ≤ t_8_grams)) fun (t_20 : Bool) =>
  appK jt_21 t_20) (appK jt_21 false)

def e0  (s : Unit) : Option (Int) :=
  
  some 0

def P (list : (List Go.Proofs.Ytkinlkmmelkdnaa.PRate.Rate)) (day : Int) (zone : Int) (grams : Int) : Option (Int) :=
  cntK (l0 list day zone grams) (list.length) 0 () (e0 )

set_option maxRecDepth 100000 in
set_option maxHeartbeats 2000000 in
theorem C (list : (List Go.Proofs.Ytkinlkmmelkdnaa.PRate.Rate)) (day : Int) (zone : Int) (grams : Int) (A0 : Option Addr) (c0 : Nat)  (w : World) (M0 : Hid (Cells w 5 A0 list.length (Go.Proofs.Ytkinlkmmelkdnaa.PRate.flat list))) (N0 : Hid (list.length ≤ 9223372036854775807))  {r : Int} (H : Hid (P list day zone grams = some r)) :
    Calls Try.prog 81 #[.slice A0 list.length c0, .int .i64 day, .int .i64 zone, .int .i64 grams] w (Gives (.int .i64 r) w) := by
  have HB := Lib.hid (Below.refl w.heap.size w)
  unfold P at H
  have N0o := N0.out
  go_enter Try.func81, Try.ntmps81
  go_wp2_with fail
  go_loopg [9] (list.length) (fun m_ v9_ wr => ∃ (k0 : Nat) , k0 + m_ = list.length ∧ v9_ = .int .i64 (k0 : Int) ∧ Hid (cntK (l0 list day zone grams) m_ k0 () (e0 ) = some r) ∧ Hid (Below w.heap.size w wr))
  case atStart => exact ⟨0, by omega, rfl, H, HB⟩
  case round =>
    obtain ⟨k0, hkm0, rfl, H, HBwr0⟩ := hrel
    rename World => wr0
    cases gk with
    | zero =>
      obtain rfl : k0 = list.length := by omega
      have hc0 : decide (((list.length : Nat) : Int) < ((list.length : Nat) : Int)) = false := by simp
      replace H := cnt_zero H
      unfold e0 at H
      obtain rfl := ret_hid H
      go_wp2_with fail
      go_ret
      exact ⟨rfl, HBwr0.out⟩
    | succ m0 =>
      have hlt0 : k0 < list.length := by omega
      have hc0 : decide ((k0 : Int) < ((list.length : Nat) : Int)) = true := by simp; omega
      replace H := cnt_succ H
      unfold l0 at H
      replace H := idx_hid H
      obtain ⟨nt_8, yt_8, et_8, lt_8, gt_8, H⟩ := H
      obtain rfl : k0 = nt_8 := by omega
      clear et_8
      obtain ⟨t_8_zone, t_8_grams, t_8_from_, t_8_until_, t_8_cents⟩ := yt_8
      replace H := unRate_hid H
      obtain ⟨ab_t_8, ao_t_8, zt_8, At_8, z_t_8, ct_8_0, ct_8_1, ct_8_2, ct_8_3, ct_8_4⟩ := Go.Proofs.Ytkinlkmmelkdnaa.ORate.at_ M0.out lt_8
      obtain rfl := Option.some.inj (gt_8.out.symm.trans z_t_8)
      subst At_8
      have ltt_8 := cell_lt ct_8_0
      replace ct_8_0 := cell_below HBwr0.out ct_8_0
      replace ct_8_1 := cell_below HBwr0.out ct_8_1
      replace ct_8_2 := cell_below HBwr0.out ct_8_2
      replace ct_8_3 := cell_below HBwr0.out ct_8_3
      replace ct_8_4 := cell_below HBwr0.out ct_8_4
      clear z_t_8
      have b0t_8 : (0 : Int) ≤ (k0 : Int) := by omega
      have b1t_8 : (k0 : Int) < ((list.length : Nat) : Int) := by omega
      have b2t_8 : ((k0 : Int)).toNat = k0 := by omega
      obtain ⟨w_r_10, hw_r_10⟩ : ∃ x, wr0.alloc (.cells #[.int .i64 t_8_zone, .int .i64 t_8_grams, .int .i64 t_8_from_, .int .i64 t_8_until_, .int .i64 t_8_cents] 25) = x := ⟨_, rfl⟩
      have bw_r_10 : Below wr0.heap.size wr0 w_r_10 := by rw [← hw_r_10]; exact (Below.refl _ _).alloc (Nat.le_refl _) _
      have HBw_r_10 := Lib.hid (Below.step HBwr0.out bw_r_10)
      have ct_8_0__113 := cell_below bw_r_10 ct_8_0
      have ct_8_1__114 := cell_below bw_r_10 ct_8_1
      have ct_8_2__115 := cell_below bw_r_10 ct_8_2
      have ct_8_3__116 := cell_below bw_r_10 ct_8_3
      have ct_8_4__117 := cell_below bw_r_10 ct_8_4
      clear bw_r_10
      have kr_10_0 : w_r_10.cell? ⟨wr0.heap.size, 0, none⟩ = some (.int .i64 t_8_zone) := by rw [← hw_r_10]; exact box_new _ _ _ 0 _ rfl
      have kr_10_1 : w_r_10.cell? ⟨wr0.heap.size, 1, none⟩ = some (.int .i64 t_8_grams) := by rw [← hw_r_10]; exact box_new _ _ _ 1 _ rfl
      have kr_10_2 : w_r_10.cell? ⟨wr0.heap.size, 2, none⟩ = some (.int .i64 t_8_from_) := by rw [← hw_r_10]; exact box_new _ _ _ 2 _ rfl
      have kr_10_3 : w_r_10.cell? ⟨wr0.heap.size, 3, none⟩ = some (.int .i64 t_8_until_) := by rw [← hw_r_10]; exact box_new _ _ _ 3 _ rfl
      have kr_10_4 : w_r_10.cell? ⟨wr0.heap.size, 4, none⟩ = some (.int .i64 t_8_cents) := by rw [← hw_r_10]; exact box_new _ _ _ 4 _ rfl
      replace H := let_hid H
      obtain ⟨t_15, ht_15, H⟩ := H
      replace H := join_hid H
      cases t_15 with
      | false =>
        replace H := ite_f H
        replace H := app_hid H
        replace H := join_hid H
        replace H := ite_f H
        replace H := app_hid H
        replace H := ite_f H
        replace H := app_hid H
        go_wp2_with fail
        clear ct_8_0 ct_8_1 ct_8_2 ct_8_3 ct_8_4
        go_roundg m0
        case measure => omega
        case rel => exact ⟨k0 + 1, by omega, by go_num, H, HBw_r_10⟩
      | true =>
        replace H := ite_t H
        replace H := let_hid H
        obtain ⟨t_20, ht_20, H⟩ := H
        replace H := app_hid H
        replace H := join_hid H
        cases t_20 with
        | false =>
          replace H := ite_f H
          replace H := app_hid H
          replace H := ite_f H
          replace H := app_hid H
          go_wp2_with fail
          clear ct_8_0 ct_8_1 ct_8_2 ct_8_3 ct_8_4
          go_roundg m0
          case measure => omega
          case rel => exact ⟨k0 + 1, by omega, by go_num, H, HBw_r_10⟩
        | true =>
          replace H := ite_t H
          replace H := bind_hid H
          obtain ⟨t_28, qt_28, H⟩ := H
          go_wp2_with fail
          clear ct_8_0 ct_8_1 ct_8_2 ct_8_3 ct_8_4
          go_at_call 88
          refine (Go.Proofs.Ytkinlkmmelkdnaa.GsL1In.C (day) (t_8_from_) (t_8_until_)  _    qt_28).mono ?_
          rintro e_t_28 wt_28 ⟨rfl, bt_28⟩
          have HBwt_28 := Lib.hid (Below.step HBw_r_10.out bt_28)
          replace ct_8_0__113 := cell_below bt_28 ct_8_0__113
          replace ct_8_1__114 := cell_below bt_28 ct_8_1__114
          replace ct_8_2__115 := cell_below bt_28 ct_8_2__115
          replace ct_8_3__116 := cell_below bt_28 ct_8_3__116
          replace ct_8_4__117 := cell_below bt_28 ct_8_4__117
          replace kr_10_0 := cell_below bt_28 kr_10_0
          replace kr_10_1 := cell_below bt_28 kr_10_1
          replace kr_10_2 := cell_below bt_28 kr_10_2
          replace kr_10_3 := cell_below bt_28 kr_10_3
          replace kr_10_4 := cell_below bt_28 kr_10_4
          clear bt_28
          replace H := app_hid H
          cases t_28 with
          | false =>
            replace H := ite_f H
            replace H := app_hid H
            go_wp2_with fail
            go_roundg m0
            case measure => omega
            case rel => exact ⟨k0 + 1, by omega, by go_num, H, HBwt_28⟩
          | true =>
            replace H := ite_t H
            obtain rfl := ret_hid H
            go_wp2_with fail
            go_ret
            exact ⟨rfl, HBwt_28.out⟩
end Go.Proofs.Ytkinlkmmelkdnaa.GsL8For

/- Chapter 8: rates: the plain functions of the program and of the reference agree, and the laws answer true. (Q8For) No condition but those of each theorem. -/
namespace Go.Proofs.Ytkinlkmmelkdnaa.Q8For
set_option linter.unusedVariables false
set_option linter.unusedSimpArgs false
open Go.RowKit
open Go.Proofs.Ytkinlkmmelkdnaa.GoP Go.Proofs.Ytkinlkmmelkdnaa.PlainStamp Go.Proofs.Ytkinlkmmelkdnaa.QBase Go.Proofs.Ytkinlkmmelkdnaa.QFold Go.Proofs.Ytkinlkmmelkdnaa.QRiseL Go.Proofs.Ytkinlkmmelkdnaa.QOrd Go.Proofs.Ytkinlkmmelkdnaa.Q8List Go.Proofs.Ytkinlkmmelkdnaa.Q8Rate Go.Proofs.Ytkinlkmmelkdnaa.QLoop Go.Proofs.Ytkinlkmmelkdnaa.PRate

def onB (day zone grams : Int) (r : Rate) : Bool := decide (r.zone = zone) && decide (grams ≤ r.grams) && inB day r.from_ r.until_
def rateV (l : List Rate) (day zone grams : Int) : Int := match l.find? (onB day zone grams) with | some r => r.cents | none => 0
theorem rateOn_eq (l : List Rate) (day zone grams : Int) : GiRateOn.P l day zone grams = some (rateV l day zone grams) := by
  simp only [GiRateOn.P]
  rw [find_val (p := onB day zone grams) (yes := fun x => some x.cents)]
  · unfold rateV; cases l.find? (onB day zone grams) <;> rfl
  · intro k nx x hx
    have hi : idx l (k : Int) = some x := by rw [idx_nat, hx]
    simp only [GiRateOn.l0, hi, Option.bind_some, unRate, within_eq, letK, joinK, appK, iteK_if, onB]
    by_cases h1 : x.zone = zone <;> by_cases h2 : grams ≤ x.grams <;> simp [h1, h2]
theorem l8For_eq (l : List Rate) (day zone grams : Int) : GsL8For.P l day zone grams = some (rateV l day zone grams) := by
  simp only [GsL8For.P]
  rw [find_val (p := onB day zone grams) (yes := fun x => some x.cents)]
  · unfold rateV; cases l.find? (onB day zone grams) <;> rfl
  · intro k nx x hx
    have hi : idx l (k : Int) = some x := by rw [idx_nat, hx]
    simp only [GsL8For.l0, hi, Option.bind_some, unRate, l1In_eq, letK, joinK, appK, iteK_if, onB]
    by_cases h1 : x.zone = zone <;> by_cases h2 : grams ≤ x.grams <;> simp [h1, h2]
theorem rateV_nonneg {l : List Rate} (h : okRs l = true) (day zone grams : Int) : 0 ≤ rateV l day zone grams := by
  unfold rateV
  cases hf : l.find? (onB day zone grams) with
  | none => exact Int.le_refl _
  | some r => have := okR_of (rs_mem h (List.mem_of_find?_eq_some hf)); dsimp only; omega
theorem canSend_eq (l : List Rate) (zone grams : Int) (hl : l.length ≤ 9223372036854775807) : GiCanSend.P l zone grams = some (okRs l && inB zone 0 9 && inB grams 1 2000) := by
  simp only [GiCanSend.P, areRates_eq l hl, isZone_eq, isWeight_eq, Option.bind_some, joinK, appK, iteK_if]
  cases okRs l <;> cases inB zone 0 9 <;> simp
end Go.Proofs.Ytkinlkmmelkdnaa.Q8For

/- Chapter 8: a raised rate: the plain functions of the program and of the reference agree, and the law answers true. (Q8Raise) No condition but those of each theorem. -/
namespace Go.Proofs.Ytkinlkmmelkdnaa.Q8Raise
set_option linter.unusedVariables false
set_option linter.unusedSimpArgs false
open Go.RowKit
open Go.Proofs.Ytkinlkmmelkdnaa.GoP Go.Proofs.Ytkinlkmmelkdnaa.PlainStamp Go.Proofs.Ytkinlkmmelkdnaa.QBase Go.Proofs.Ytkinlkmmelkdnaa.QCount Go.Proofs.Ytkinlkmmelkdnaa.QFold Go.Proofs.Ytkinlkmmelkdnaa.Q8Concat Go.Proofs.Ytkinlkmmelkdnaa.QRiseL Go.Proofs.Ytkinlkmmelkdnaa.QOrd Go.Proofs.Ytkinlkmmelkdnaa.Q8For Go.Proofs.Ytkinlkmmelkdnaa.Q8List Go.Proofs.Ytkinlkmmelkdnaa.Q8Rate Go.Proofs.Ytkinlkmmelkdnaa.QLoop Go.Proofs.Ytkinlkmmelkdnaa.PRate

def hitB (zone grams day : Int) (r : Rate) : Bool := decide (r.zone = zone) && decide (r.grams = grams) && decide (r.from_ < day) && decide (day ≤ r.until_)
def raised (l : List Rate) (i : Nat) (r : Rate) (day cents : Int) : List Rate := l.take i ++ ([⟨r.zone, r.grams, r.from_, day - 1, r.cents⟩, ⟨r.zone, r.grams, day, r.until_, cents⟩] ++ l.drop (i + 1))
def raiseAt (l : List Rate) (i : Nat) (day cents : Int) : List Rate × Bool := match l[i]? with | none => ([], false) | some r => if r.cents = cents then ([], false) else if okRs (raised l i r day cents) = true then (raised l i r day cents, true) else ([], false)
def raiseRes (l : List Rate) (zone grams day cents : Int) : List Rate × Bool := if (okRs l && inB day 0 4000 && inB cents 1 9999) = true then (match l.findIdx? (hitB zone grams day) with | none => ([], false) | some i => raiseAt l i day cents) else ([], false)
theorem raised_len (l : List Rate) (i : Nat) (r : Rate) (day cents : Int) : (raised l i r day cents).length ≤ l.length + 2 := by
  unfold raised
  rw [List.length_append, List.length_append, List.length_take, List.length_drop]
  simp only [List.length_cons, List.length_nil]; omega
theorem raiseAt_len {l : List Rate} (h16 : l.length ≤ 16) (i : Nat) (day cents : Int) : (raiseAt l i day cents).1.length ≤ 20 := by
  unfold raiseAt
  cases hr : l[i]? with
  | none => simp
  | some r =>
    have := raised_len l i r day cents
    dsimp only
    by_cases h1 : r.cents = cents
    · rw [if_pos h1]; simp
    · rw [if_neg h1]
      by_cases h2 : okRs (raised l i r day cents) = true
      · rw [if_pos h2]; dsimp only; omega
      · rw [if_neg h2]; simp
theorem raise_len {l : List Rate} (zone grams day cents : Int) : (raiseRes l zone grams day cents).1.length ≤ 20 := by
  unfold raiseRes
  by_cases hc : (okRs l && inB day 0 4000 && inB cents 1 9999) = true
  · rw [if_pos hc]
    simp only [Bool.and_eq_true] at hc
    have h16 := riseL_len hc.1.1
    cases l.findIdx? (hitB zone grams day) with
    | none => simp
    | some i => exact raiseAt_len h16 i day cents
  · rw [if_neg hc]; simp
theorem find_hit (l : List Rate) (zone grams day : Int) : GxSlicesIndexFuncLoopExampleG01062ImplRateLoopExampleG01062ImplRateiRaiseRate1.P l zone grams day = some (firstI (hitB zone grams day) l) := by
  simp only [GxSlicesIndexFuncLoopExampleG01062ImplRateLoopExampleG01062ImplRateiRaiseRate1.P]
  rw [find_loop (p := hitB zone grams day) (yes := fun i => some (i : Int))]
  · unfold firstI; cases l.findIdx? (hitB zone grams day) <;> rfl
  · intro k nx x hx
    have hi : idx l (k : Int) = some x := by rw [idx_nat, hx]
    have hp : GiRaiseRate1.P (Rate.mk x.zone x.grams x.from_ x.until_ x.cents) zone grams day = some (hitB zone grams day x) := by
      simp only [GiRaiseRate1.P, unRate, unrateClass, GiClassOf.P, Option.bind_some, letK, joinK, appK, iteK_if, hitB]
      by_cases h1 : x.zone = zone <;> by_cases h2 : x.grams = grams <;> by_cases h3 : x.from_ < day <;> simp [h1, h2, h3]
    simp only [GxSlicesIndexFuncLoopExampleG01062ImplRateLoopExampleG01062ImplRateiRaiseRate1.l0, hi, Option.bind_some, unRate, hp, iteK_if, appK]
theorem no_hit {l : List Rate} (h : okRs l = true) {zone grams day : Int} (hz : inB zone 0 9 = false ∨ inB grams 1 2000 = false) : l.findIdx? (hitB zone grams day) = none := by
  rw [List.findIdx?_eq_none_iff]
  intro r hr
  have hok := okR_of (rs_mem h hr)
  unfold hitB
  unfold inB at hz
  simp only [decide_eq_false_iff_not] at hz
  rw [Bool.eq_false_iff]
  simp only [ne_eq, Bool.and_eq_true, decide_eq_true_eq]
  omega
theorem raise_impl (l : List Rate) (zone grams day cents : Int) (hl : l.length ≤ 9223372036854775807) : GiRaiseRate.P l zone grams day cents = some (raiseRes l zone grams day cents) := by
  simp only [GiRaiseRate.P, canSend_eq l zone grams hl, isDay_eq, isRateCents_eq, Option.bind_some, letK, joinK, appK, iteK_if, raiseRes]
  cases hc : okRs l with
  | false => simp
  | true =>
    cases hd : inB day 0 4000 with
    | false => cases inB zone 0 9 <;> cases inB grams 1 2000 <;> simp
    | true =>
      cases hce : inB cents 1 9999 with
      | false => cases inB zone 0 9 <;> cases inB grams 1 2000 <;> simp
      | true =>
        cases hz : inB zone 0 9 with
        | false => simp [no_hit hc (day := day) (grams := grams) (Or.inl hz)]
        | true =>
          cases hg : inB grams 1 2000 with
          | false => simp [no_hit hc (day := day) (zone := zone) (Or.inr hg)]
          | true =>
            have h16 := riseL_len hc
            have hdd := inB_of hd
            simp only [Bool.and_self, Bool.not_true, Bool.false_eq_true, if_false, if_true, find_hit, Option.bind_some, firstI]
            cases hf : l.findIdx? (hitB zone grams day) with
            | none => simp
            | some i =>
              have hi : i < l.length := by
                rw [List.findIdx?_eq_some_iff_getElem] at hf
                exact hf.1
              obtain ⟨r, hr, hri⟩ := at_lt (l := l) (k := i) hi
              have hneg : ¬ ((i : Int) < 0) := by omega
              have hw : IntKind.i64.wrap ((i : Int) + 1) = ((i + 1 : Nat) : Int) := by rw [wrap_in (by omega) (by omega)]; omega
              have hwd : IntKind.i64.wrap (day - 1) = day - 1 := wrap_in (by omega) (by omega)
              have hrl := raised_len l i r day cents
              have hcat : GxSlicesConcatLoopExampleG01062ImplRateLoopExampleG01062ImplRate.P [l.take i, [⟨r.zone, r.grams, r.from_, day - 1, r.cents⟩, ⟨r.zone, r.grams, day, r.until_, cents⟩], l.drop (i + 1)] = some (raised l i r day cents) := by
                rw [concat_eq _ (by simp) (fun x hx => by
                  simp only [List.mem_cons, List.not_mem_nil, or_false] at hx
                  rcases hx with rfl | rfl | rfl
                  · rw [List.length_take]; omega
                  · simp
                  · rw [List.length_drop]; omega)]
                simp [raised]
              simp only [decide_eq_false hneg, Bool.false_eq_true, if_false, hri, Option.bind_some, unRate, hw, hwd, Int.toNat_natCast, raiseAt, hr]
              by_cases he : r.cents = cents
              · simp [he]
              · have heb : (r.cents == cents) = false := by simpa using he
                simp only [heb, Bool.false_eq_true, if_false, if_neg he]
                rw [guardK_pos (by omega), guardK_pos (by omega), hcat]
                simp only [Option.bind_some, areRates_eq (raised l i r day cents) (by omega)]
                cases okRs (raised l i r day cents) <;> simp
theorem raise_spec {fuel : Nat} (l : List Rate) (zone grams day cents : Int) (hl : l.length ≤ 9223372036854775807) (hfu : 17 < fuel) : GsRaiseRate.P fuel l zone grams day cents = some (raiseRes l zone grams day cents) := by
  simp only [GsRaiseRate.P, l8Good_eq l hl hfu, l2Day_eq, l8Cents_eq, Option.bind_some, letK, joinK, appK, iteK_if, raiseRes]
  cases hc : okRs l with
  | false => simp
  | true =>
    cases hd : inB day 0 4000 with
    | false => simp
    | true =>
      cases hce : inB cents 1 9999 with
      | false => simp
      | true =>
        have h16 := riseL_len hc
        have hdd := inB_of hd
        simp only [Bool.and_self, Bool.not_true, Bool.false_eq_true, if_false, if_true]
        rw [find_loop (p := hitB zone grams day) (yes := fun i => some (raiseAt l i day cents))]
        · cases l.findIdx? (hitB zone grams day) <;> rfl
        · intro k nx r hr
          have hi : idx l (k : Int) = some r := by rw [idx_nat, hr]
          have hk : k < l.length := (List.getElem?_eq_some_iff.1 hr).1
          have hok := okR_of (rs_mem hc (List.mem_of_getElem? hr))
          have hw1 : IntKind.i64.wrap (r.from_ + 1) = r.from_ + 1 := wrap_in (by omega) (by omega)
          have hin : inB day (r.from_ + 1) r.until_ = (decide (r.from_ < day) && decide (day ≤ r.until_)) := by unfold inB; rw [Bool.eq_iff_iff]; simp; omega
          simp only [GsRaiseRate.l0, hi, Option.bind_some, unRate, letK, joinK, appK, iteK_if, hw1, l1In_eq, hin]
          cases hh : hitB zone grams day r with
          | false =>
            unfold hitB at hh
            by_cases h1 : r.zone = zone
            · by_cases h2 : r.grams = grams
              · have h3 : (decide (r.from_ < day) && decide (day ≤ r.until_)) = false := by simpa [h1, h2] using hh
                simp [h1, h2, h3]
              · simp [h1, h2]
            · simp [h1]
          | true =>
            unfold hitB at hh
            simp only [Bool.and_eq_true, decide_eq_true_eq] at hh
            obtain ⟨⟨⟨h1, h2⟩, h3⟩, h4⟩ := hh
            have hw : IntKind.i64.wrap ((k : Int) + 1) = ((k + 1 : Nat) : Int) := by rw [wrap_in (by omega) (by omega)]; omega
            have hwd : IntKind.i64.wrap (day - 1) = day - 1 := wrap_in (by omega) (by omega)
            have hrl := raised_len l k r day cents
            have hcat : l.take k ++ [⟨r.zone, r.grams, r.from_, day - 1, r.cents⟩, ⟨r.zone, r.grams, day, r.until_, cents⟩] ++ l.drop (k + 1) = raised l k r day cents := by simp [raised]
            have z1 : (r.zone != zone) = false := by simp [h1]
            have z2 : (r.grams != grams) = false := by simp [h2]
            simp only [z1, z2, h3, h4, decide_true, Bool.and_self, Bool.not_true, Bool.false_eq_true, if_false, if_true, hw, hwd, Int.toNat_natCast, List.nil_append]
            rw [guardK_pos (by omega), guardK_pos (by simp; omega), guardK_pos (by simp; omega), guardK_pos (by omega), guardK_pos (by simp; omega), hcat]
            simp only [l8Good_eq (raised l k r day cents) (by omega) hfu, Option.bind_some, raiseAt, hr]
            by_cases he : r.cents = cents
            · have heb : (cents == r.cents) = true := by simpa using he.symm
              cases okRs (raised l k r day cents) <;> simp [heb, he]
            · have heb : (cents == r.cents) = false := by simpa using fun e => he e.symm
              cases okRs (raised l k r day cents) <;> simp [heb, he]
end Go.Proofs.Ytkinlkmmelkdnaa.Q8Raise

/- The laws' helpers on Rate and on slices of it as plain functions: copied, equal, their bulk. No condition. -/
namespace Go.Proofs.Ytkinlkmmelkdnaa.QHRateE
set_option linter.unusedVariables false
set_option linter.unusedSimpArgs false
open Go.RowKit
open Go.Proofs.Ytkinlkmmelkdnaa.GoP Go.Proofs.Ytkinlkmmelkdnaa.QBase Go.Proofs.Ytkinlkmmelkdnaa.QLoop Go.Proofs.Ytkinlkmmelkdnaa.PRate

theorem toOne (s : Rate) : GlToRate.P s = some s := by cases s; rfl
theorem eqOne (s : Rate) : GlEqRate.P s s = some true := by
  obtain ⟨x0, x1, x2, x3, x4⟩ := s
  simp [GlEqRate.P, unRate, letK, joinK, appK, iteK_if]
theorem toS (l : List Rate) (hl : l.length ≤ 1048576) : GlToRateS.P l = some l := by
  simp only [GlToRateS.P, letK]
  rw [guardK_pos (by omega)]
  refine cnt_is l (fun k s => s = l.take k ++ List.replicate (l.length - k) (Rate.mk 0 0 0 0 0)) ?_ ?_ _ (by simp)
  · intro k s nx hk hI hn
    obtain ⟨x, hx, hi⟩ := at_lt (l := l) (k := k) hk
    have hlen : s.length = l.length := by rw [hI]; simp; omega
    obtain ⟨z, hz, hj⟩ := at_lt (l := s) (k := k) (by omega)
    simp only [GlToRateS.l0, hi, hj, toOne, Option.bind_some, unRate, letK, appK]
    refine hn _ ?_
    rw [hI, take_next hx, List.set_append_right _ _ (by simp; omega)]
    have hr : l.length - k = (l.length - (k + 1)) + 1 := by omega
    rw [hr, List.replicate_succ, List.append_assoc]
    simp [show k - min k l.length = 0 by omega]
  · intro s hI
    rw [hI]; simp [GlToRateS.e0, letK]
theorem eqS (l : List Rate) : GlEqRateS.P l l = some true := by
  simp only [GlEqRateS.P, letK, iteK_if]
  rw [if_neg (by simp)]
  refine cnt_is true (fun _ _ => True) ?_ (fun s _ => rfl) () trivial
  intro k s nx hk _ hn
  obtain ⟨x, hx, hi⟩ := at_lt (l := l) (k := k) hk
  simp only [GlEqRateS.l0, hi, Option.bind_some, unRate, eqOne, letK, appK, iteK_if]
  exact hn () trivial
theorem szS (l : List Rate) (hl : l.length ≤ 9223372036854775807) : GlSzRateS.P l 1048576 = some (if l.length ≤ 1048576 then 1048576 - (l.length : Int) else -1) := by
  simp only [GlSzRateS.P, letK, iteK_if]
  rw [wrap_in (by omega) (by omega)]
  by_cases h : l.length ≤ 1048576
  · rw [if_neg (by simp; omega), if_pos h]
  · rw [if_pos (by simp; omega), if_neg h]
end Go.Proofs.Ytkinlkmmelkdnaa.QHRateE

/- The laws' helper that marks a slice of Rate as a plain function. No condition. -/
namespace Go.Proofs.Ytkinlkmmelkdnaa.QHRate
set_option linter.unusedVariables false
set_option linter.unusedSimpArgs false
open Go.RowKit
open Go.Proofs.Ytkinlkmmelkdnaa.GoP Go.Proofs.Ytkinlkmmelkdnaa.QBase Go.Proofs.Ytkinlkmmelkdnaa.QLoop Go.Proofs.Ytkinlkmmelkdnaa.PRate 
theorem set_at {α : Type} {l : List α} {k : Nat} (x : α) (h : k < l.length) : idx (l.set k x) (k : Int) = some x := by rw [idx_nat, List.getElem?_set_self h]
theorem markS (l : List Rate) (hl : l.length ≤ 1048576) : ∃ v l', GlMarkRateS.P l 1 = some (v, l') ∧ 0 ≤ v := by
  obtain ⟨⟨v, l'⟩, h, hv⟩ : ∃ r : Int × List Rate, GlMarkRateS.P l 1 = some r ∧ 0 ≤ r.1 := by
    simp only [GlMarkRateS.P]
    refine cnt_ex (n := l.length) (Q := fun r : Int × List Rate => 0 ≤ r.1) (fun k (s : List Rate × Int) => s.1.length = l.length ∧ s.2 = 5 * (k : Int) + 1) ?_ ?_ l.length 0 (l, 1) (by omega) ⟨rfl, rfl⟩
    · rintro k ⟨a, b⟩ nx hk ⟨h1, h2⟩ hn
      dsimp only at h1 h2
      obtain ⟨x, hx, hi⟩ := at_lt (l := a) (k := k) (by omega)
      have ha : k < a.length := by omega
      have w1 : IntKind.i64.wrap (b + 1) = b + 1 := wrap_in (by omega) (by omega)
      have w2 : IntKind.i64.wrap (b + 1 + 1) = b + 1 + 1 := wrap_in (by omega) (by omega)
      have w3 : IntKind.i64.wrap (b + 1 + 1 + 1) = b + 1 + 1 + 1 := wrap_in (by omega) (by omega)
      have w4 : IntKind.i64.wrap (b + 1 + 1 + 1 + 1) = b + 1 + 1 + 1 + 1 := wrap_in (by omega) (by omega)
      have w5 : IntKind.i64.wrap (b + 1 + 1 + 1 + 1 + 1) = b + 1 + 1 + 1 + 1 + 1 := wrap_in (by omega) (by omega)
      simp (disch := simp [ha]) only [GlMarkRateS.l0, unp2, hi, set_at, Option.bind_some, unRate, letK, appK, w1, w2, w3, w4, w5]
      exact hn _ ⟨by simpa using h1, by dsimp only; omega⟩
    · rintro ⟨a, b⟩ ⟨h1, h2⟩
      exact ⟨_, rfl, by dsimp only at h2 ⊢; omega⟩
  exact ⟨v, l', h, hv⟩
end Go.Proofs.Ytkinlkmmelkdnaa.QHRate

/- Chapter 8: a raised rate: the plain functions of the program and of the reference agree, and the law answers true. (QHeldRate) No condition but those of each theorem. -/
namespace Go.Proofs.Ytkinlkmmelkdnaa.QHeldRate
set_option linter.unusedVariables false
set_option linter.unusedSimpArgs false
open Go.RowKit
open Go.Proofs.Ytkinlkmmelkdnaa.GoP Go.Proofs.Ytkinlkmmelkdnaa.PlainStamp Go.Proofs.Ytkinlkmmelkdnaa.QBase Go.Proofs.Ytkinlkmmelkdnaa.QLoop Go.Proofs.Ytkinlkmmelkdnaa.PRate

def qui (i : Nat) : Rate := ⟨5 * (i : Int) + 1, 5 * (i : Int) + 2, 5 * (i : Int) + 3, 5 * (i : Int) + 4, 5 * (i : Int) + 5⟩
theorem setAt {α : Type} {l : List α} {k : Nat} (x : α) (h : k < l.length) : idx (l.set k x) (k : Int) = some x := by rw [idx_nat, List.getElem?_set_self h]
theorem markHeld (l : List Rate) (hl : l.length ≤ 1048576) : ∃ v l', GlMarkRateS.P l 1 = some (v, l') ∧ GlHeldRateS.P l' 1 = some v ∧ 0 ≤ v := by
  obtain ⟨⟨v, l'⟩, h, hv, hlen, hat⟩ : ∃ r : Int × List Rate, GlMarkRateS.P l 1 = some r ∧ r.1 = 5 * (l.length : Int) + 1 ∧ r.2.length = l.length ∧ ∀ i : Nat, i < l.length → r.2[i]? = some (qui i) := by
    simp only [GlMarkRateS.P]
    refine cnt_ex (n := l.length) (Q := fun r : Int × List Rate => r.1 = 5 * (l.length : Int) + 1 ∧ r.2.length = l.length ∧ ∀ i : Nat, i < l.length → r.2[i]? = some (qui i)) (fun k (s : List Rate × Int) => s.1.length = l.length ∧ s.2 = 5 * (k : Int) + 1 ∧ ∀ i : Nat, i < k → s.1[i]? = some (qui i)) ?_ ?_ l.length 0 (l, 1) (by omega) ⟨rfl, rfl, fun i hi => by omega⟩
    · rintro k ⟨a, b⟩ nx hk ⟨h1, h2, h3⟩ hn
      dsimp only at h1 h2 h3
      obtain ⟨x, hx, hi⟩ := at_lt (l := a) (k := k) (by omega)
      have ha : k < a.length := by omega
      have w1 : IntKind.i64.wrap (b + 1) = b + 1 := wrap_in (by omega) (by omega)
      have w2 : IntKind.i64.wrap (b + 1 + 1) = b + 1 + 1 := wrap_in (by omega) (by omega)
      have w3 : IntKind.i64.wrap (b + 1 + 1 + 1) = b + 1 + 1 + 1 := wrap_in (by omega) (by omega)
      have w4 : IntKind.i64.wrap (b + 1 + 1 + 1 + 1) = b + 1 + 1 + 1 + 1 := wrap_in (by omega) (by omega)
      have w5 : IntKind.i64.wrap (b + 1 + 1 + 1 + 1 + 1) = b + 1 + 1 + 1 + 1 + 1 := wrap_in (by omega) (by omega)
      simp (disch := simp [ha]) only [GlMarkRateS.l0, unp2, hi, setAt, Option.bind_some, unRate, letK, appK, w1, w2, w3, w4, w5, List.set_set]
      refine hn _ ⟨by simpa using h1, by dsimp only; omega, fun i hi2 => ?_⟩
      dsimp only
      by_cases he : i = k
      · subst he
        rw [List.getElem?_set_self ha, h2]
        unfold qui
        congr 2 <;> omega
      · rw [List.getElem?_set_ne (by omega)]
        exact h3 i (by omega)
    · rintro ⟨a, b⟩ ⟨h1, h2, h3⟩
      dsimp only at h1 h2 h3
      exact ⟨_, rfl, h2, h1, h3⟩
  dsimp only at hv hlen hat
  refine ⟨v, l', h, ?_, by omega⟩
  simp only [GlHeldRateS.P]
  refine cnt_is _ (fun k s => s = 5 * (k : Int) + 1) ?_ ?_ 1 rfl
  · intro k s nx hk hI hn
    have hi : idx l' (k : Int) = some (qui k) := by rw [idx_nat, hat k (by omega)]
    have w1 : IntKind.i64.wrap (s + 1) = s + 1 := wrap_in (by omega) (by omega)
    have w2 : IntKind.i64.wrap (s + 1 + 1) = s + 1 + 1 := wrap_in (by omega) (by omega)
    have w3 : IntKind.i64.wrap (s + 1 + 1 + 1) = s + 1 + 1 + 1 := wrap_in (by omega) (by omega)
    have w4 : IntKind.i64.wrap (s + 1 + 1 + 1 + 1) = s + 1 + 1 + 1 + 1 := wrap_in (by omega) (by omega)
    have w5 : IntKind.i64.wrap (s + 1 + 1 + 1 + 1 + 1) = s + 1 + 1 + 1 + 1 + 1 := wrap_in (by omega) (by omega)
    have n1 : (5 * (k : Int) + 1 != s) = false := by simp; omega
    have n2 : (5 * (k : Int) + 2 != s + 1) = false := by simp; omega
    have n3 : (5 * (k : Int) + 3 != s + 1 + 1) = false := by simp; omega
    have n4 : (5 * (k : Int) + 4 != s + 1 + 1 + 1) = false := by simp; omega
    have n5 : (5 * (k : Int) + 5 != s + 1 + 1 + 1 + 1) = false := by simp; omega
    simp only [GlHeldRateS.l0, letK, hi, Option.bind_some, unRate, qui, w1, w2, w3, w4, w5, n1, n2, n3, n4, n5, iteK_if, Bool.false_eq_true, if_false, appK]
    exact hn _ (by omega)
  · intro s hI
    simp only [GlHeldRateS.e0, letK]
    rw [hI, hlen, hv]
end Go.Proofs.Ytkinlkmmelkdnaa.QHeldRate

/- Chapter 8: a raised rate: the plain functions of the program and of the reference agree, and the law answers true. (QL8Raise) No condition but those of each theorem. -/
namespace Go.Proofs.Ytkinlkmmelkdnaa.QL8Raise
set_option linter.unusedVariables false
set_option linter.unusedSimpArgs false
open Go.RowKit
open Go.Proofs.Ytkinlkmmelkdnaa.GoP Go.Proofs.Ytkinlkmmelkdnaa.PlainStamp Go.Proofs.Ytkinlkmmelkdnaa.QBase Go.Proofs.Ytkinlkmmelkdnaa.Q8Raise Go.Proofs.Ytkinlkmmelkdnaa.QLoop Go.Proofs.Ytkinlkmmelkdnaa.PRate Go.Proofs.Ytkinlkmmelkdnaa.QHRateE Go.Proofs.Ytkinlkmmelkdnaa.QHRate Go.Proofs.Ytkinlkmmelkdnaa.QHeldRate

theorem law_raise {fuel : Nat} (l : List Rate) (zone grams day cents : Int) (hl : l.length ≤ 9223372036854775807) (hf : 17 < fuel) : GlFnExactRaiseRate.P fuel l zone grams day cents = some true := by
  simp only [GlFnExactRaiseRate.P, szS l hl, Option.bind_some, letK, iteK_if]
  by_cases hb : l.length ≤ 1048576
  · rw [if_neg (by rw [if_pos hb]; simp; omega)]
    obtain ⟨⟨a, b⟩, hr⟩ : ∃ x, x = raiseRes l zone grams day cents := ⟨_, rfl⟩
    have hlen := raise_len (l := l) zone grams day cents
    rw [← hr] at hlen
    dsimp only at hlen
    obtain ⟨v2, l2, hm, hv2⟩ := markS l hb
    obtain ⟨v3, l3, hm3, hh3, hv3⟩ := markHeld a (by omega)
    have hv4 : ¬ v2 < 0 := by omega
    have hv5 : ¬ v3 < 0 := by omega
    simp [toS l hb, raise_spec l zone grams day cents hl hf, raise_impl l zone grams day cents hl, ← hr, bind2, joinK, appK, iteK_if, eqS, hm, hv4, hm3, hh3, hv5]
  · rw [if_pos (by rw [if_neg hb]; simp)]
end Go.Proofs.Ytkinlkmmelkdnaa.QL8Raise

