/- Texts on which the proofs of several laws stand, one behind the other (11 of 13). No condition of their own. -/
import Derived.Test.YtlljmgphgmklcaaChecked
import Derived.Test.YtlljmgphgmklcaaW10P1
import Derived.Test.YtlljmgphgmklcaaW10P7
import Derived.WalkKit
import Derived.WalkSpells
import Derived.WalkLawsBesides
import Derived.BigQuiet
import Derived.OwnWalk
import Derived.Deep.LoopGhost
import Derived.Deep.QuietTactic
import Derived.IntWalk
import Derived.Lib.QuietBelow
import Derived.Test.YtlljmgphgmklcaaW10P4
import Derived.Test.YtlljmgphgmklcaaW10P6
import Derived.Test.YtlljmgphgmklcaaW10P8
import Derived.Test.YtlljmgphgmklcaaW10P9
import Derived.Test.YtlljmgphgmklcaaW10P5
import Derived.Test.YtlljmgphgmklcaaW10P10
/- loop.example/g01062/spec.HeaviestFor as a plain function, and the contract of the program's: where the plain one has an answer, the program has it. Conditions: slices read as lists. -/
namespace Go.Proofs.Ytlljmgphgmklcaa.GsHeaviestFor
set_option linter.unusedVariables false
set_option linter.unusedSimpArgs false
open Go.RowKit
open Go.Proofs.Ytlljmgphgmklcaa.Rowed Go.Proofs.Ytlljmgphgmklcaa.Turn Go.Proofs.Ytlljmgphgmklcaa.Aid Go.Proofs.Ytlljmgphgmklcaa.GoP Go.Proofs.Ytlljmgphgmklcaa.GoM

def l0 (list : (List Go.Proofs.Ytlljmgphgmklcaa.PRate.Rate)) (day : Int) (zone : Int) (cents : Int) (k0 : Nat) (s : Int) (nx0 bk0 : Int → Option (Int × Bool)) : Option (Int × Bool) :=
  letK s fun best_10l0 =>
  Option.bind (idx list (k0 : Int)) fun (yt_30 : Go.Proofs.Ytlljmgphgmklcaa.PRate.Rate) =>
  unRate yt_30 fun (t_30_zone : Int) (t_30_grams : Int) (t_30_from_ : Int) (t_30_until_ : Int) (t_30_cents : Int) =>
  letK (t_30_zone == zone) fun (t_37 : Bool) =>
  joinK (fun (t_45 : Bool) =>
  joinK (fun (t_51 : Bool) =>
  iteK t_51
  (appK nx0 (t_30_grams))
  (appK nx0 (best_10l0))) fun jt_51 => iteK t_45 (letK (decide (t_30_cents ≤ cents)) fun (t_50 : Bool) =>
  appK jt_51 t_50) (appK jt_51 false)) fun jt_45 => iteK t_37 (Option.bind (Go.Proofs.Ytlljmgphgmklcaa.GsL1In.P day t_30_from_ t_30_until_) fun (t_44 : Bool) =>
  appK jt_45 t_44) (appK jt_45 false)

def e0  (s : Int) : Option (Int × Bool) :=
  letK s fun best_10l0 =>
  letK (decide (0 < best_10l0)) fun (t_60 : Bool) =>
  some (best_10l0, t_60)

def P (fuel : Nat) (list : (List Go.Proofs.Ytlljmgphgmklcaa.PRate.Rate)) (day : Int) (zone : Int) (cents : Int) : Option (Int × Bool) :=
  Option.bind (Go.Proofs.Ytlljmgphgmklcaa.GsL8Good.P fuel list) fun (t_3 : Bool) =>
  letK (!t_3) fun (t_4 : Bool) =>
  joinK (fun (t_9 : Bool) =>
  joinK (fun (t_14 : Bool) =>
  joinK (fun (t_19 : Bool) =>
  iteK t_19
  (some (0, false))
  (cntK (l0 list day zone cents) (list.length) 0 (0) (e0 ))) fun jt_19 => iteK t_14 (appK jt_19 true) (Option.bind (Go.Proofs.Ytlljmgphgmklcaa.GsL8Cents.P cents) fun (t_17 : Bool) =>
  letK (!t_17) fun (t_18 : Bool) =>
  appK jt_19 t_18)) fun jt_14 => iteK t_9 (appK jt_14 true) (Option.bind (Go.Proofs.Ytlljmgphgmklcaa.GsL8Zone.P zone) fun (t_12 : Bool) =>
  letK (!t_12) fun (t_13 : Bool) =>
  appK jt_14 t_13)) fun jt_9 => iteK t_4 (appK jt_9 true) (Option.bind (Go.Proofs.Ytlljmgphgmklcaa.GsL2Day.P day) fun (t_7 : Bool) =>
  letK (!t_7) fun (t_8 : Bool) =>
  appK jt_9 t_8)

set_option maxRecDepth 100000 in
set_option maxHeartbeats 2000000 in
theorem C (fuel : Nat) (list : (List Go.Proofs.Ytlljmgphgmklcaa.PRate.Rate)) (day : Int) (zone : Int) (cents : Int) (A0 : Option Addr) (c0 : Nat)  (w : World) (M0 : Hid (Cells w 5 A0 list.length (Go.Proofs.Ytlljmgphgmklcaa.PRate.flat list))) (N0 : Hid (list.length ≤ 9223372036854775807))  {r0 : Int} {r1 : Bool} (H : Hid (P fuel list day zone cents = some (r0, r1))) :
    Calls Try.prog 76 #[.slice A0 list.length c0, .int .i64 day, .int .i64 zone, .int .i64 cents] w (Gives (.tuple #[.int .i64 r0, .bool r1]) w) := by
  have HB := Lib.hid (Below.refl w.heap.size w)
  unfold P at H
  have N0o := N0.out
  go_enter Try.func76, Try.ntmps76
  replace H := bind_hid H
  obtain ⟨t_3, qt_3, H⟩ := H
  go_wp2_with fail
  go_at_call 89
  refine (Go.Proofs.Ytlljmgphgmklcaa.GsL8Good.C fuel (list) A0 c0 _   (Lib.hid (Cells.below M0.out HB.out)) N0 qt_3).mono ?_
  rintro e_t_3 wt_3 ⟨rfl, bt_3⟩
  have HBwt_3 := Lib.hid (Below.step HB.out bt_3)
  clear bt_3
  cases t_3 with
  | false =>
    replace H := let_hid H
    obtain ⟨t_4, ht_4, H⟩ := H
    obtain rfl : t_4 = true := ht_4.symm
    replace H := join_hid H
    replace H := ite_t H
    replace H := app_hid H
    replace H := join_hid H
    replace H := ite_t H
    replace H := app_hid H
    replace H := join_hid H
    replace H := ite_t H
    replace H := app_hid H
    replace H := ite_t H
    cases ret_hid H
    go_wp2_with fail
    go_ret2
    exact ⟨rfl, HBwt_3.out⟩
  | true =>
    replace H := let_hid H
    obtain ⟨t_4, ht_4, H⟩ := H
    obtain rfl : t_4 = false := ht_4.symm
    replace H := join_hid H
    replace H := ite_f H
    replace H := bind_hid H
    obtain ⟨t_7, qt_7, H⟩ := H
    go_wp2_with fail
    go_at_call 129
    refine (Go.Proofs.Ytlljmgphgmklcaa.GsL2Day.C (day)  _    qt_7).mono ?_
    rintro e_t_7 wt_7 ⟨rfl, bt_7⟩
    have HBwt_7 := Lib.hid (Below.step HBwt_3.out bt_7)
    clear bt_7
    cases t_7 with
    | false =>
      replace H := let_hid H
      obtain ⟨t_8, ht_8, H⟩ := H
      obtain rfl : t_8 = true := ht_8.symm
      replace H := app_hid H
      replace H := join_hid H
      replace H := ite_t H
      replace H := app_hid H
      replace H := join_hid H
      replace H := ite_t H
      replace H := app_hid H
      replace H := ite_t H
      cases ret_hid H
      go_wp2_with fail
      go_ret2
      exact ⟨rfl, HBwt_7.out⟩
    | true =>
      replace H := let_hid H
      obtain ⟨t_8, ht_8, H⟩ := H
      obtain rfl : t_8 = false := ht_8.symm
      replace H := app_hid H
      replace H := join_hid H
      replace H := ite_f H
      replace H := bind_hid H
      obtain ⟨t_12, qt_12, H⟩ := H
      go_wp2_with fail
      go_at_call 139
      refine (Go.Proofs.Ytlljmgphgmklcaa.GsL8Zone.C (zone)  _    qt_12).mono ?_
      rintro e_t_12 wt_12 ⟨rfl, bt_12⟩
      have HBwt_12 := Lib.hid (Below.step HBwt_7.out bt_12)
      clear bt_12
      cases t_12 with
      | false =>
        replace H := let_hid H
        obtain ⟨t_13, ht_13, H⟩ := H
        obtain rfl : t_13 = true := ht_13.symm
        replace H := app_hid H
        replace H := join_hid H
        replace H := ite_t H
        replace H := app_hid H
        replace H := ite_t H
        cases ret_hid H
        go_wp2_with fail
        go_ret2
        exact ⟨rfl, HBwt_12.out⟩
      | true =>
        replace H := let_hid H
        obtain ⟨t_13, ht_13, H⟩ := H
        obtain rfl : t_13 = false := ht_13.symm
        replace H := app_hid H
        replace H := join_hid H
        replace H := ite_f H
        replace H := bind_hid H
        obtain ⟨t_17, qt_17, H⟩ := H
        go_wp2_with fail
        go_at_call 130
        refine (Go.Proofs.Ytlljmgphgmklcaa.GsL8Cents.C (cents)  _    qt_17).mono ?_
        rintro e_t_17 wt_17 ⟨rfl, bt_17⟩
        have HBwt_17 := Lib.hid (Below.step HBwt_12.out bt_17)
        clear bt_17
        cases t_17 with
        | false =>
          replace H := let_hid H
          obtain ⟨t_18, ht_18, H⟩ := H
          obtain rfl : t_18 = true := ht_18.symm
          replace H := app_hid H
          replace H := ite_t H
          cases ret_hid H
          go_wp2_with fail
          go_ret2
          exact ⟨rfl, HBwt_17.out⟩
        | true =>
          replace H := let_hid H
          obtain ⟨t_18, ht_18, H⟩ := H
          obtain rfl : t_18 = false := ht_18.symm
          replace H := app_hid H
          replace H := ite_f H
          go_wp2_with fail
          go_loopg [11, 10] (list.length) (fun m_ v11_ v10_ wr => ∃ (k0 : Nat) (best_10l0 : Int), k0 + m_ = list.length ∧ v11_ = .int .i64 (k0 : Int) ∧ v10_ = .int .i64 best_10l0 ∧ Hid (cntK (l0 list day zone cents) m_ k0 (best_10l0) (e0 ) = some (r0, r1)) ∧ Hid (Below w.heap.size w wr))
          case atStart => exact ⟨0, _, by omega, rfl, rfl, H, HBwt_17⟩
          case round =>
            obtain ⟨k0, best_10l0, hkm0, rfl, rfl, H, HBwr0⟩ := hrel
            rename World => wr0
            cases gk with
            | zero =>
              obtain rfl : k0 = list.length := by omega
              have hc0 : decide (((list.length : Nat) : Int) < ((list.length : Nat) : Int)) = false := by simp
              replace H := cnt_zero H
              unfold e0 at H
              replace H := let_hid H
              obtain ⟨_, rfl, H⟩ := H
              replace H := let_hid H
              obtain ⟨t_60, ht_60, H⟩ := H
              cases ret_hid H
              go_wp2_with fail
              go_ret2
              exact ⟨rfl, HBwr0.out⟩
            | succ m0 =>
              have hlt0 : k0 < list.length := by omega
              have hc0 : decide ((k0 : Int) < ((list.length : Nat) : Int)) = true := by simp; omega
              replace H := cnt_succ H
              unfold l0 at H
              replace H := let_hid H
              obtain ⟨_, rfl, H⟩ := H
              replace H := idx_hid H
              obtain ⟨nt_30, yt_30, et_30, lt_30, gt_30, H⟩ := H
              obtain rfl : k0 = nt_30 := by omega
              clear et_30
              obtain ⟨t_30_zone, t_30_grams, t_30_from_, t_30_until_, t_30_cents⟩ := yt_30
              replace H := unRate_hid H
              obtain ⟨ab_t_30, ao_t_30, zt_30, At_30, z_t_30, ct_30_0, ct_30_1, ct_30_2, ct_30_3, ct_30_4⟩ := Go.Proofs.Ytlljmgphgmklcaa.ORate.at_ M0.out lt_30
              obtain rfl := Option.some.inj (gt_30.out.symm.trans z_t_30)
              subst At_30
              have ltt_30 := cell_lt ct_30_0
              replace ct_30_0 := cell_below HBwr0.out ct_30_0
              replace ct_30_1 := cell_below HBwr0.out ct_30_1
              replace ct_30_2 := cell_below HBwr0.out ct_30_2
              replace ct_30_3 := cell_below HBwr0.out ct_30_3
              replace ct_30_4 := cell_below HBwr0.out ct_30_4
              clear z_t_30
              have b0t_30 : (0 : Int) ≤ (k0 : Int) := by omega
              have b1t_30 : (k0 : Int) < ((list.length : Nat) : Int) := by omega
              have b2t_30 : ((k0 : Int)).toNat = k0 := by omega
              obtain ⟨w_r_32, hw_r_32⟩ : ∃ x, wr0.alloc (.cells #[.int .i64 t_30_zone, .int .i64 t_30_grams, .int .i64 t_30_from_, .int .i64 t_30_until_, .int .i64 t_30_cents] 104) = x := ⟨_, rfl⟩
              have bw_r_32 : Below wr0.heap.size wr0 w_r_32 := by rw [← hw_r_32]; exact (Below.refl _ _).alloc (Nat.le_refl _) _
              have HBw_r_32 := Lib.hid (Below.step HBwr0.out bw_r_32)
              have ct_30_0__1687 := cell_below bw_r_32 ct_30_0
              have ct_30_1__1688 := cell_below bw_r_32 ct_30_1
              have ct_30_2__1689 := cell_below bw_r_32 ct_30_2
              have ct_30_3__1690 := cell_below bw_r_32 ct_30_3
              have ct_30_4__1691 := cell_below bw_r_32 ct_30_4
              clear bw_r_32
              have kr_32_0 : w_r_32.cell? ⟨wr0.heap.size, 0, none⟩ = some (.int .i64 t_30_zone) := by rw [← hw_r_32]; exact box_new _ _ _ 0 _ rfl
              have kr_32_1 : w_r_32.cell? ⟨wr0.heap.size, 1, none⟩ = some (.int .i64 t_30_grams) := by rw [← hw_r_32]; exact box_new _ _ _ 1 _ rfl
              have kr_32_2 : w_r_32.cell? ⟨wr0.heap.size, 2, none⟩ = some (.int .i64 t_30_from_) := by rw [← hw_r_32]; exact box_new _ _ _ 2 _ rfl
              have kr_32_3 : w_r_32.cell? ⟨wr0.heap.size, 3, none⟩ = some (.int .i64 t_30_until_) := by rw [← hw_r_32]; exact box_new _ _ _ 3 _ rfl
              have kr_32_4 : w_r_32.cell? ⟨wr0.heap.size, 4, none⟩ = some (.int .i64 t_30_cents) := by rw [← hw_r_32]; exact box_new _ _ _ 4 _ rfl
              replace H := let_hid H
              obtain ⟨t_37, ht_37, H⟩ := H
              replace H := join_hid H
              cases t_37 with
              | false =>
                replace H := ite_f H
                replace H := app_hid H
                replace H := join_hid H
                replace H := ite_f H
                replace H := app_hid H
                replace H := ite_f H
                replace H := app_hid H
                go_wp2_with fail
                clear ct_30_0 ct_30_1 ct_30_2 ct_30_3 ct_30_4
                go_roundg m0
                case measure => omega
                case rel => exact ⟨k0 + 1, _, by omega, by go_num, rfl, H, HBw_r_32⟩
              | true =>
                replace H := ite_t H
                replace H := bind_hid H
                obtain ⟨t_44, qt_44, H⟩ := H
                go_wp2_with fail
                clear ct_30_0 ct_30_1 ct_30_2 ct_30_3 ct_30_4
                go_at_call 113
                refine (Go.Proofs.Ytlljmgphgmklcaa.GsL1In.C (day) (t_30_from_) (t_30_until_)  _    qt_44).mono ?_
                rintro e_t_44 wt_44 ⟨rfl, bt_44⟩
                have HBwt_44 := Lib.hid (Below.step HBw_r_32.out bt_44)
                replace ct_30_0__1687 := cell_below bt_44 ct_30_0__1687
                replace ct_30_1__1688 := cell_below bt_44 ct_30_1__1688
                replace ct_30_2__1689 := cell_below bt_44 ct_30_2__1689
                replace ct_30_3__1690 := cell_below bt_44 ct_30_3__1690
                replace ct_30_4__1691 := cell_below bt_44 ct_30_4__1691
                replace kr_32_0 := cell_below bt_44 kr_32_0
                replace kr_32_1 := cell_below bt_44 kr_32_1
                replace kr_32_2 := cell_below bt_44 kr_32_2
                replace kr_32_3 := cell_below bt_44 kr_32_3
                replace kr_32_4 := cell_below bt_44 kr_32_4
                clear bt_44
                replace H := app_hid H
                replace H := join_hid H
                cases t_44 with
                | false =>
                  replace H := ite_f H
                  replace H := app_hid H
                  replace H := ite_f H
                  replace H := app_hid H
                  go_wp2_with fail
                  go_roundg m0
                  case measure => omega
                  case rel => exact ⟨k0 + 1, _, by omega, by go_num, rfl, H, HBwt_44⟩
                | true =>
                  replace H := ite_t H
                  replace H := let_hid H
                  obtain ⟨t_50, ht_50, H⟩ := H
                  replace H := app_hid H
                  cases t_50 with
                  | false =>
                    replace H := ite_f H
                    replace H := app_hid H
                    go_wp2_with fail
                    go_roundg m0
                    case measure => omega
                    case rel => exact ⟨k0 + 1, _, by omega, by go_num, rfl, H, HBwt_44⟩
                  | true =>
                    replace H := ite_t H
                    replace H := app_hid H
                    go_wp2_with fail
                    go_roundg m0
                    case measure => omega
                    case rel => exact ⟨k0 + 1, _, by omega, by go_num, rfl, H, HBwt_44⟩
end Go.Proofs.Ytlljmgphgmklcaa.GsHeaviestFor

/- loop.example/g01062/laws.FnRaises as a plain function, and the contract of the program's: where the plain one has an answer, the program has it. Conditions: slices read as lists. -/
namespace Go.Proofs.Ytlljmgphgmklcaa.GlFnRaises
set_option linter.unusedVariables false
set_option linter.unusedSimpArgs false
open Go.RowKit
open Go.Proofs.Ytlljmgphgmklcaa.Rowed Go.Proofs.Ytlljmgphgmklcaa.Turn Go.Proofs.Ytlljmgphgmklcaa.Aid Go.Proofs.Ytlljmgphgmklcaa.GoP Go.Proofs.Ytlljmgphgmklcaa.GoM

def l0 (t_117a : (List Go.Proofs.Ytlljmgphgmklcaa.PRate.Rate)) (t_117b : Int) (t_117c : Int) (t_128a : (List Int)) (s : Int) (nx0 bk0 : Int → Option (Bool)) : Option (Bool) :=
  letK s fun i_25l0 =>
  letK (decide (i_25l0 < (t_128a.length : Int))) fun (t_157 : Bool) =>
  iteK t_157
  (letK (IntKind.i64.wrap (i_25l0 - 1)) fun (t_162 : Int) =>
  Option.bind (idx t_128a t_162) fun (yt_163 : Int) =>
  bind2 (Go.Proofs.Ytlljmgphgmklcaa.GiRateFor.P t_117a t_117b yt_163 t_117c) fun (t_166a : Int) (t_166b : Bool) =>
  Option.bind (idx t_128a i_25l0) fun (yt_176 : Int) =>
  bind2 (Go.Proofs.Ytlljmgphgmklcaa.GiRateFor.P t_117a t_117b yt_176 t_117c) fun (t_179a : Int) (t_179b : Bool) =>
  letK (!t_166b) fun (t_186 : Bool) =>
  joinK (fun (t_190 : Bool) =>
  joinK (fun (t_195 : Bool) =>
  iteK t_195
  (some false)
  (letK (IntKind.i64.wrap (i_25l0 + 1)) fun (t_198 : Int) =>
  appK nx0 (t_198))) fun jt_195 => iteK t_190 (appK jt_195 true) (letK (t_166a != t_179a) fun (t_194 : Bool) =>
  appK jt_195 t_194)) fun jt_190 => iteK t_186 (appK jt_190 true) (letK (!t_179b) fun (t_189 : Bool) =>
  appK jt_190 t_189))
  (appK bk0 (i_25l0))

def e0 (code : (List Int)) (fuel : Nat) (tapes : List Int → Go.Proofs.Ytlljmgphgmklcaa.GoC.Tape) (s : Int) : Option (Bool) :=
  letK s fun i_25l0 =>
  Option.bind (Go.Proofs.Ytlljmgphgmklcaa.GsDrawStrangeRates.P fuel tapes code) fun (t_201 : (List Go.Proofs.Ytlljmgphgmklcaa.PRate.Rate)) =>
  bind2 (Go.Proofs.Ytlljmgphgmklcaa.GiStrangeRates.P t_201) fun (t_204a : (List Int)) (t_204b : Bool) =>
  bind2 (Go.Proofs.Ytlljmgphgmklcaa.GsStrangeRates.P fuel t_201) fun (t_211a : (List Int)) (t_211b : Bool) =>
  letK (!(t_204b == t_211b)) fun (t_219 : Bool) =>
  joinK (fun (t_225 : Bool) =>
  iteK t_225
  (some false)
  (bind4 (Go.Proofs.Ytlljmgphgmklcaa.GsDrawHeaviestFor.P fuel tapes code) fun (t_228a : (List Go.Proofs.Ytlljmgphgmklcaa.PRate.Rate)) (t_228b : Int) (t_228c : Int) (t_228d : Int) =>
  bind2 (Go.Proofs.Ytlljmgphgmklcaa.GiHeaviestFor.P t_228a t_228b t_228c t_228d) fun (t_242a : Int) (t_242b : Bool) =>
  bind2 (Go.Proofs.Ytlljmgphgmklcaa.GsHeaviestFor.P fuel t_228a t_228b t_228c t_228d) fun (t_252a : Int) (t_252b : Bool) =>
  letK (t_242a != t_252a) fun (t_260 : Bool) =>
  joinK (fun (t_265 : Bool) =>
  iteK t_265
  (some false)
  (iteK t_242b
  (bind2 (Go.Proofs.Ytlljmgphgmklcaa.GiRateFor.P t_228a t_228b t_228c t_242a) fun (t_272a : Int) (t_272b : Bool) =>
  joinK (fun (t_283 : Bool) =>
  some t_283) fun jt_283 => iteK t_272b (letK (decide (t_272a ≤ t_228d)) fun (t_282 : Bool) =>
  appK jt_283 t_282) (appK jt_283 false))
  (some true))) fun jt_265 => iteK t_260 (appK jt_265 true) (letK (!(t_242b == t_252b)) fun (t_264 : Bool) =>
  appK jt_265 t_264))) fun jt_225 => iteK t_219 (appK jt_225 true) (Option.bind (Go.Proofs.Ytlljmgphgmklcaa.GlVInts.P t_204a t_211a) fun (t_223 : Bool) =>
  letK (!t_223) fun (t_224 : Bool) =>
  appK jt_225 t_224)

def j0 (code : (List Int)) (fuel : Nat) (tapes : List Int → Go.Proofs.Ytlljmgphgmklcaa.GoC.Tape) (s : Unit) : Option (Bool) :=
  bind3 (Go.Proofs.Ytlljmgphgmklcaa.GsDrawCheapestZones.P fuel tapes code) fun (t_117a : (List Go.Proofs.Ytlljmgphgmklcaa.PRate.Rate)) (t_117b : Int) (t_117c : Int) =>
  bind2 (Go.Proofs.Ytlljmgphgmklcaa.GiCheapestZones.P t_117a t_117b t_117c) fun (t_128a : (List Int)) (t_128b : Bool) =>
  bind2 (Go.Proofs.Ytlljmgphgmklcaa.GsCheapestZones.P fuel t_117a t_117b t_117c) fun (t_137a : (List Int)) (t_137b : Bool) =>
  letK (!(t_128b == t_137b)) fun (t_145 : Bool) =>
  joinK (fun (t_151 : Bool) =>
  iteK t_151
  (some false)
  (loopK (l0 t_117a t_117b t_117c t_128a) fuel (1) (e0 code fuel tapes))) fun jt_151 => iteK t_145 (appK jt_151 true) (Option.bind (Go.Proofs.Ytlljmgphgmklcaa.GlVInts.P t_128a t_137a) fun (t_149 : Bool) =>
  letK (!t_149) fun (t_150 : Bool) =>
  appK jt_151 t_150)

def P (fuel : Nat) (tapes : List Int → Go.Proofs.Ytlljmgphgmklcaa.GoC.Tape) (code : (List Int)) : Option (Bool) :=
  Option.bind (Go.Proofs.Ytlljmgphgmklcaa.GlVBig.P code) fun (t_2 : Bool) =>
  iteK t_2
  (some true)
  (bind5 (Go.Proofs.Ytlljmgphgmklcaa.GsDrawRaiseRate.P fuel tapes code) fun (t_5a : (List Go.Proofs.Ytlljmgphgmklcaa.PRate.Rate)) (t_5b : Int) (t_5c : Int) (t_5d : Int) (t_5e : Int) =>
  bind2 (Go.Proofs.Ytlljmgphgmklcaa.GiRaiseRate.P t_5a t_5b t_5c t_5d t_5e) fun (t_22a : (List Go.Proofs.Ytlljmgphgmklcaa.PRate.Rate)) (t_22b : Bool) =>
  bind2 (Go.Proofs.Ytlljmgphgmklcaa.GsRaiseRate.P fuel t_5a t_5b t_5c t_5d t_5e) fun (t_33a : (List Go.Proofs.Ytlljmgphgmklcaa.PRate.Rate)) (t_33b : Bool) =>
  letK (!(t_22b == t_33b)) fun (t_41 : Bool) =>
  joinK (fun (t_47 : Bool) =>
  iteK t_47
  (some false)
  (iteK t_22b
  (bind2 (Go.Proofs.Ytlljmgphgmklcaa.GiRateFor.P t_22a t_5d t_5b t_5c) fun (t_54a : Int) (t_54b : Bool) =>
  letK (IntKind.i64.wrap (t_5d - 1)) fun (t_62 : Int) =>
  bind2 (Go.Proofs.Ytlljmgphgmklcaa.GiRateFor.P t_22a t_62 t_5b t_5c) fun (t_65a : Int) (t_65b : Bool) =>
  letK (IntKind.i64.wrap (t_5d - 1)) fun (t_73 : Int) =>
  bind2 (Go.Proofs.Ytlljmgphgmklcaa.GiRateFor.P t_5a t_73 t_5b t_5c) fun (t_76a : Int) (t_76b : Bool) =>
  letK (!t_54b) fun (t_83 : Bool) =>
  joinK (fun (t_87 : Bool) =>
  joinK (fun (t_91 : Bool) =>
  joinK (fun (t_96 : Bool) =>
  joinK (fun (t_101 : Bool) =>
  joinK (fun (t_109 : Bool) =>
  joinK (fun (t_114 : Bool) =>
  iteK t_114
  (some false)
  (j0 code fuel tapes ())) fun jt_114 => iteK t_109 (appK jt_114 true) (Option.bind (Go.Proofs.Ytlljmgphgmklcaa.GiAreRates.P t_22a) fun (t_112 : Bool) =>
  letK (!t_112) fun (t_113 : Bool) =>
  appK jt_114 t_113)) fun jt_109 => iteK t_101 (appK jt_109 true) (letK (IntKind.i64.wrap ((t_5a.length : Int) + 1)) fun (t_107 : Int) =>
  letK ((t_22a.length : Int) != t_107) fun (t_108 : Bool) =>
  appK jt_109 t_108)) fun jt_101 => iteK t_96 (appK jt_101 true) (letK (t_65a != t_76a) fun (t_100 : Bool) =>
  appK jt_101 t_100)) fun jt_96 => iteK t_91 (appK jt_96 true) (letK (t_54a != t_5e) fun (t_95 : Bool) =>
  appK jt_96 t_95)) fun jt_91 => iteK t_87 (appK jt_91 true) (letK (!t_76b) fun (t_90 : Bool) =>
  appK jt_91 t_90)) fun jt_87 => iteK t_83 (appK jt_87 true) (letK (!t_65b) fun (t_86 : Bool) =>
  appK jt_87 t_86))
  (j0 code fuel tapes ()))) fun jt_47 => iteK t_41 (appK jt_47 true) (Option.bind (Go.Proofs.Ytlljmgphgmklcaa.GlVRates.P t_22a t_33a) fun (t_45 : Bool) =>
  letK (!t_45) fun (t_46 : Bool) =>
  appK jt_47 t_46))

set_option maxRecDepth 100000 in
set_option maxHeartbeats 2000000 in
theorem C (fuel : Nat) (tapes : List Int → Go.Proofs.Ytlljmgphgmklcaa.GoC.Tape) (code : (List Int)) (A0 : Option Addr) (c0 : Nat)  (w : World) (HE : Hid (Go.Proofs.Ytlljmgphgmklcaa.GoC.Tells tapes)) (M0 : Hid (Cells w 1 A0 code.length (Go.Proofs.Ytlljmgphgmklcaa.GoC.u8s code))) (N0 : Hid (code.length ≤ 9223372036854775807)) (V0 : Hid (∀ z ∈ code, 0 ≤ z ∧ z ≤ 255))  {r : Bool} (H : Hid (P fuel tapes code = some r)) :
    Calls Try.prog 15 #[.slice A0 code.length c0] w (Gives (.bool r) w) := by
  have HB := Lib.hid (Below.refl w.heap.size w)
  unfold P at H
  have N0o := N0.out
  go_enter Try.func15, Try.ntmps15
  replace H := bind_hid H
  obtain ⟨t_2, qt_2, H⟩ := H
  go_wp2_with fail
  go_at_call 53
  refine (Go.Proofs.Ytlljmgphgmklcaa.GlVBig.C (code) A0 c0 _   (Lib.hid (Cells.below M0.out HB.out)) N0 V0 qt_2).mono ?_
  rintro e_t_2 wt_2 ⟨rfl, bt_2⟩
  have HBwt_2 := Lib.hid (Below.step HB.out bt_2)
  clear bt_2
  cases t_2 with
  | false =>
    replace H := ite_f H
    replace H := bind5_hid H
    obtain ⟨t_5a, t_5b, t_5c, t_5d, t_5e, qt_5, H⟩ := H
    go_wp2_with fail
    go_at_call 62
    refine (Go.Proofs.Ytlljmgphgmklcaa.GsDrawRaiseRate.C fuel tapes (code) A0 c0 _  HE (Lib.hid (Cells.below M0.out HBwt_2.out)) N0 V0 qt_5).mono ?_
    rintro e_t_5 wt_5 ⟨At_5a, ct_5a, rfl, ot_5a, bt_5⟩
    have Ot_5a := Lib.hid (own_lower ot_5a HBwt_2.out.size)
    clear ot_5a
    have HBwt_5 := Lib.hid (Below.step HBwt_2.out bt_5)
    clear bt_5
    replace H := bind2_hid H
    obtain ⟨t_22a, t_22b, qt_22, H⟩ := H
    go_wp2_with fail
    go_at_call 63
    refine (Go.Proofs.Ytlljmgphgmklcaa.GiRaiseRate.C (t_5a) (t_5b) (t_5c) (t_5d) (t_5e) At_5a ct_5a _   (Lib.hid (own_cells Ot_5a.out)) (Lib.hid (own_max Ot_5a.out)) (Lib.hid (own_room Ot_5a.out)) qt_22).mono ?_
    rintro e_t_22 wt_22 ⟨At_22a, ct_22a, rfl, ot_22a, bt_22⟩
    have Dt_22a_t_5a := Lib.hid (apart_call ot_22a Ot_5a.out)
    have Ot_22a := Lib.hid (own_lower ot_22a HBwt_5.out.size)
    clear ot_22a
    have HBwt_22 := Lib.hid (Below.step HBwt_5.out bt_22)
    replace Ot_5a := Lib.hid (own_below Ot_5a.out bt_22)
    clear bt_22
    replace H := bind2_hid H
    obtain ⟨t_33a, t_33b, qt_33, H⟩ := H
    go_wp2_with fail
    go_at_call 64
    refine (Go.Proofs.Ytlljmgphgmklcaa.GsRaiseRate.C fuel (t_5a) (t_5b) (t_5c) (t_5d) (t_5e) At_5a ct_5a _   (Lib.hid (own_cells Ot_5a.out)) (Lib.hid (own_max Ot_5a.out)) (Lib.hid (own_room Ot_5a.out)) qt_33).mono ?_
    rintro e_t_33 wt_33 ⟨At_33a, ct_33a, rfl, ot_33a, bt_33⟩
    have Dt_33a_t_5a := Lib.hid (apart_call ot_33a Ot_5a.out)
    have Dt_33a_t_22a := Lib.hid (apart_call ot_33a Ot_22a.out)
    have Ot_33a := Lib.hid (own_lower ot_33a HBwt_22.out.size)
    clear ot_33a
    have HBwt_33 := Lib.hid (Below.step HBwt_22.out bt_33)
    replace Ot_5a := Lib.hid (own_below Ot_5a.out bt_33)
    replace Ot_22a := Lib.hid (own_below Ot_22a.out bt_33)
    clear bt_33
    replace H := let_hid H
    obtain ⟨t_41, ht_41, H⟩ := H
    replace H := join_hid H
    cases t_41 with
    | false =>
      replace H := ite_f H
      replace H := bind_hid H
      obtain ⟨t_45, qt_45, H⟩ := H
      go_wp2_with fail
      go_at_call 65
      refine (Go.Proofs.Ytlljmgphgmklcaa.GlVRates.C (t_22a) (t_33a) At_22a ct_22a At_33a ct_33a _   (Lib.hid (own_cells Ot_22a.out)) (Lib.hid (own_max Ot_22a.out)) (Lib.hid (own_cells Ot_33a.out)) (Lib.hid (own_max Ot_33a.out)) qt_45).mono ?_
      rintro e_t_45 wt_45 ⟨rfl, bt_45⟩
      have HBwt_45 := Lib.hid (Below.step HBwt_33.out bt_45)
      replace Ot_5a := Lib.hid (own_below Ot_5a.out bt_45)
      replace Ot_22a := Lib.hid (own_below Ot_22a.out bt_45)
      replace Ot_33a := Lib.hid (own_below Ot_33a.out bt_45)
      clear bt_45
      cases t_45 with
      | false =>
        replace H := let_hid H
        obtain ⟨t_46, ht_46, H⟩ := H
        obtain rfl : t_46 = true := ht_46.symm
        replace H := app_hid H
        replace H := ite_t H
        obtain rfl := ret_hid H
        go_wp2_with fail
        go_ret
        exact ⟨rfl, HBwt_45.out⟩
      | true =>
        replace H := let_hid H
        obtain ⟨t_46, ht_46, H⟩ := H
        obtain rfl : t_46 = false := ht_46.symm
        replace H := app_hid H
        replace H := ite_f H
        cases t_22b with
        | false =>
          obtain rfl : t_33b = false := by revert ht_41; cases t_33b <;> simp
          replace H := ite_f H
          unfold j0 at H
          replace H := bind3_hid H
          obtain ⟨t_117a, t_117b, t_117c, qt_117, H⟩ := H
          go_wp2_with fail
          go_at_call 68
          refine (Go.Proofs.Ytlljmgphgmklcaa.GsDrawCheapestZones.C fuel tapes (code) A0 c0 _  HE (Lib.hid (Cells.below M0.out HBwt_45.out)) N0 V0 qt_117).mono ?_
          rintro e_t_117 wt_117 ⟨At_117a, ct_117a, rfl, ot_117a, bt_117⟩
          have Dt_117a_t_5a := Lib.hid (apart_call ot_117a Ot_5a.out)
          have Dt_117a_t_22a := Lib.hid (apart_call ot_117a Ot_22a.out)
          have Dt_117a_t_33a := Lib.hid (apart_call ot_117a Ot_33a.out)
          have Ot_117a := Lib.hid (own_lower ot_117a HBwt_45.out.size)
          clear ot_117a
          have HBwt_117 := Lib.hid (Below.step HBwt_45.out bt_117)
          replace Ot_5a := Lib.hid (own_below Ot_5a.out bt_117)
          replace Ot_22a := Lib.hid (own_below Ot_22a.out bt_117)
          replace Ot_33a := Lib.hid (own_below Ot_33a.out bt_117)
          clear bt_117
          replace H := bind2_hid H
          obtain ⟨t_128a, t_128b, qt_128, H⟩ := H
          go_wp2_with fail
          go_at_call 69
          refine (Go.Proofs.Ytlljmgphgmklcaa.GiCheapestZones.C (t_117a) (t_117b) (t_117c) At_117a ct_117a _   (Lib.hid (own_cells Ot_117a.out)) (Lib.hid (own_max Ot_117a.out)) qt_128).mono ?_
          rintro e_t_128 wt_128 ⟨At_128a, ct_128a, rfl, ot_128a, bt_128⟩
          have Dt_128a_t_5a := Lib.hid (apart_call ot_128a Ot_5a.out)
          have Dt_128a_t_22a := Lib.hid (apart_call ot_128a Ot_22a.out)
          have Dt_128a_t_33a := Lib.hid (apart_call ot_128a Ot_33a.out)
          have Dt_128a_t_117a := Lib.hid (apart_call ot_128a Ot_117a.out)
          have Ot_128a := Lib.hid (own_lower ot_128a HBwt_117.out.size)
          clear ot_128a
          have HBwt_128 := Lib.hid (Below.step HBwt_117.out bt_128)
          replace Ot_5a := Lib.hid (own_below Ot_5a.out bt_128)
          replace Ot_22a := Lib.hid (own_below Ot_22a.out bt_128)
          replace Ot_33a := Lib.hid (own_below Ot_33a.out bt_128)
          replace Ot_117a := Lib.hid (own_below Ot_117a.out bt_128)
          clear bt_128
          replace H := bind2_hid H
          obtain ⟨t_137a, t_137b, qt_137, H⟩ := H
          go_wp2_with fail
          go_at_call 70
          refine (Go.Proofs.Ytlljmgphgmklcaa.GsCheapestZones.C fuel (t_117a) (t_117b) (t_117c) At_117a ct_117a _   (Lib.hid (own_cells Ot_117a.out)) (Lib.hid (own_max Ot_117a.out)) qt_137).mono ?_
          rintro e_t_137 wt_137 ⟨At_137a, ct_137a, rfl, ot_137a, bt_137⟩
          have Dt_137a_t_5a := Lib.hid (apart_call ot_137a Ot_5a.out)
          have Dt_137a_t_22a := Lib.hid (apart_call ot_137a Ot_22a.out)
          have Dt_137a_t_33a := Lib.hid (apart_call ot_137a Ot_33a.out)
          have Dt_137a_t_117a := Lib.hid (apart_call ot_137a Ot_117a.out)
          have Dt_137a_t_128a := Lib.hid (apart_call ot_137a Ot_128a.out)
          have Ot_137a := Lib.hid (own_lower ot_137a HBwt_128.out.size)
          clear ot_137a
          have HBwt_137 := Lib.hid (Below.step HBwt_128.out bt_137)
          replace Ot_5a := Lib.hid (own_below Ot_5a.out bt_137)
          replace Ot_22a := Lib.hid (own_below Ot_22a.out bt_137)
          replace Ot_33a := Lib.hid (own_below Ot_33a.out bt_137)
          replace Ot_117a := Lib.hid (own_below Ot_117a.out bt_137)
          replace Ot_128a := Lib.hid (own_below Ot_128a.out bt_137)
          clear bt_137
          replace H := let_hid H
          obtain ⟨t_145, ht_145, H⟩ := H
          replace H := join_hid H
          cases t_145 with
          | false =>
            replace H := ite_f H
            replace H := bind_hid H
            obtain ⟨t_149, qt_149, H⟩ := H
            go_wp2_with fail
            go_at_call 55
            refine (Go.Proofs.Ytlljmgphgmklcaa.GlVInts.C (t_128a) (t_137a) At_128a ct_128a At_137a ct_137a _   (Lib.hid (own_cells Ot_128a.out)) (Lib.hid (own_max Ot_128a.out)) (Lib.hid (own_cells Ot_137a.out)) (Lib.hid (own_max Ot_137a.out)) qt_149).mono ?_
            rintro e_t_149 wt_149 ⟨rfl, bt_149⟩
            have HBwt_149 := Lib.hid (Below.step HBwt_137.out bt_149)
            replace Ot_5a := Lib.hid (own_below Ot_5a.out bt_149)
            replace Ot_22a := Lib.hid (own_below Ot_22a.out bt_149)
            replace Ot_33a := Lib.hid (own_below Ot_33a.out bt_149)
            replace Ot_117a := Lib.hid (own_below Ot_117a.out bt_149)
            replace Ot_128a := Lib.hid (own_below Ot_128a.out bt_149)
            replace Ot_137a := Lib.hid (own_below Ot_137a.out bt_149)
            clear bt_149
            cases t_149 with
            | false =>
              replace H := let_hid H
              obtain ⟨t_150, ht_150, H⟩ := H
              obtain rfl : t_150 = true := ht_150.symm
              replace H := app_hid H
              replace H := ite_t H
              obtain rfl := ret_hid H
              go_wp2_with fail
              go_ret
              exact ⟨rfl, HBwt_149.out⟩
            | true =>
              replace H := let_hid H
              obtain ⟨t_150, ht_150, H⟩ := H
              obtain rfl : t_150 = false := ht_150.symm
              replace H := app_hid H
              replace H := ite_f H
              go_wp2_with fail
              go_loopg [25] (fuel) (fun m_ v25_ wr => ∃ (i_25l0 : Int), v25_ = .int .i64 i_25l0 ∧ Hid (loopK (l0 t_117a t_117b t_117c t_128a) m_ (i_25l0) (e0 code fuel tapes) = some r) ∧ Hid (Below w.heap.size w wr) ∧ Hid (wr.ownsRow w.heap.size 104 5 (.slice At_5a t_5a.length ct_5a) t_5a.length (Go.Proofs.Ytlljmgphgmklcaa.PRate.flat t_5a)) ∧ Hid (wr.ownsRow w.heap.size 104 5 (.slice At_22a t_22a.length ct_22a) t_22a.length (Go.Proofs.Ytlljmgphgmklcaa.PRate.flat t_22a)) ∧ Hid (wr.ownsRow w.heap.size 104 5 (.slice At_33a t_33a.length ct_33a) t_33a.length (Go.Proofs.Ytlljmgphgmklcaa.PRate.flat t_33a)) ∧ Hid (wr.ownsRow w.heap.size 104 5 (.slice At_117a t_117a.length ct_117a) t_117a.length (Go.Proofs.Ytlljmgphgmklcaa.PRate.flat t_117a)) ∧ Hid (wr.ownsRow w.heap.size 3 1 (.slice At_128a t_128a.length ct_128a) t_128a.length (Go.Proofs.Ytlljmgphgmklcaa.HelpInt.iv t_128a)) ∧ Hid (wr.ownsRow w.heap.size 3 1 (.slice At_137a t_137a.length ct_137a) t_137a.length (Go.Proofs.Ytlljmgphgmklcaa.HelpInt.iv t_137a)))
              case atStart => exact ⟨_, rfl, H, HBwt_149, Ot_5a, Ot_22a, Ot_33a, Ot_117a, Ot_128a, Ot_137a⟩
              case round =>
                obtain ⟨i_25l0, rfl, H, HBwr0, Ot_5a, Ot_22a, Ot_33a, Ot_117a, Ot_128a, Ot_137a⟩ := hrel
                rename World => wr0
                cases gk with
                | zero => exact (loop_zero H).elim
                | succ m0 =>
                  replace H := loop_succ H
                  unfold l0 at H
                  replace H := let_hid H
                  obtain ⟨_, rfl, H⟩ := H
                  replace H := let_hid H
                  obtain ⟨t_157, ht_157, H⟩ := H
                  cases t_157 with
                  | false =>
                    replace H := ite_f H
                    replace H := app_hid H
                    unfold e0 at H
                    replace H := let_hid H
                    obtain ⟨_, rfl, H⟩ := H
                    replace H := bind_hid H
                    obtain ⟨t_201, qt_201, H⟩ := H
                    go_wp2_with fail
                    go_at_call 71
                    refine (Go.Proofs.Ytlljmgphgmklcaa.GsDrawStrangeRates.C fuel tapes (code) A0 c0 _  HE (Lib.hid (Cells.below M0.out HBwr0.out)) N0 V0 qt_201).mono ?_
                    rintro e_t_201 wt_201 ⟨At_201, ct_201, rfl, ot_201, bt_201⟩
                    have Dt_201_t_5a := Lib.hid (apart_call ot_201 Ot_5a.out)
                    have Dt_201_t_22a := Lib.hid (apart_call ot_201 Ot_22a.out)
                    have Dt_201_t_33a := Lib.hid (apart_call ot_201 Ot_33a.out)
                    have Dt_201_t_117a := Lib.hid (apart_call ot_201 Ot_117a.out)
                    have Dt_201_t_128a := Lib.hid (apart_call ot_201 Ot_128a.out)
                    have Dt_201_t_137a := Lib.hid (apart_call ot_201 Ot_137a.out)
                    have Ot_201 := Lib.hid (own_lower ot_201 HBwr0.out.size)
                    clear ot_201
                    have HBwt_201 := Lib.hid (Below.step HBwr0.out bt_201)
                    replace Ot_5a := Lib.hid (own_below Ot_5a.out bt_201)
                    replace Ot_22a := Lib.hid (own_below Ot_22a.out bt_201)
                    replace Ot_33a := Lib.hid (own_below Ot_33a.out bt_201)
                    replace Ot_117a := Lib.hid (own_below Ot_117a.out bt_201)
                    replace Ot_128a := Lib.hid (own_below Ot_128a.out bt_201)
                    replace Ot_137a := Lib.hid (own_below Ot_137a.out bt_201)
                    clear bt_201
                    replace H := bind2_hid H
                    obtain ⟨t_204a, t_204b, qt_204, H⟩ := H
                    go_wp2_with fail
                    go_at_call 72
                    refine (Go.Proofs.Ytlljmgphgmklcaa.GiStrangeRates.C (t_201) At_201 ct_201 _   (Lib.hid (own_cells Ot_201.out)) (Lib.hid (own_max Ot_201.out)) qt_204).mono ?_
                    rintro e_t_204 wt_204 ⟨At_204a, ct_204a, rfl, ot_204a, bt_204⟩
                    have Dt_204a_t_5a := Lib.hid (apart_call ot_204a Ot_5a.out)
                    have Dt_204a_t_22a := Lib.hid (apart_call ot_204a Ot_22a.out)
                    have Dt_204a_t_33a := Lib.hid (apart_call ot_204a Ot_33a.out)
                    have Dt_204a_t_117a := Lib.hid (apart_call ot_204a Ot_117a.out)
                    have Dt_204a_t_128a := Lib.hid (apart_call ot_204a Ot_128a.out)
                    have Dt_204a_t_137a := Lib.hid (apart_call ot_204a Ot_137a.out)
                    have Dt_204a_t_201 := Lib.hid (apart_call ot_204a Ot_201.out)
                    have Ot_204a := Lib.hid (own_lower ot_204a HBwt_201.out.size)
                    clear ot_204a
                    have HBwt_204 := Lib.hid (Below.step HBwt_201.out bt_204)
                    replace Ot_5a := Lib.hid (own_below Ot_5a.out bt_204)
                    replace Ot_22a := Lib.hid (own_below Ot_22a.out bt_204)
                    replace Ot_33a := Lib.hid (own_below Ot_33a.out bt_204)
                    replace Ot_117a := Lib.hid (own_below Ot_117a.out bt_204)
                    replace Ot_128a := Lib.hid (own_below Ot_128a.out bt_204)
                    replace Ot_137a := Lib.hid (own_below Ot_137a.out bt_204)
                    replace Ot_201 := Lib.hid (own_below Ot_201.out bt_204)
                    clear bt_204
                    replace H := bind2_hid H
                    obtain ⟨t_211a, t_211b, qt_211, H⟩ := H
                    go_wp2_with fail
                    go_at_call 73
                    refine (Go.Proofs.Ytlljmgphgmklcaa.GsStrangeRates.C fuel (t_201) At_201 ct_201 _   (Lib.hid (own_cells Ot_201.out)) (Lib.hid (own_max Ot_201.out)) qt_211).mono ?_
                    rintro e_t_211 wt_211 ⟨At_211a, ct_211a, rfl, ot_211a, bt_211⟩
                    have Dt_211a_t_5a := Lib.hid (apart_call ot_211a Ot_5a.out)
                    have Dt_211a_t_22a := Lib.hid (apart_call ot_211a Ot_22a.out)
                    have Dt_211a_t_33a := Lib.hid (apart_call ot_211a Ot_33a.out)
                    have Dt_211a_t_117a := Lib.hid (apart_call ot_211a Ot_117a.out)
                    have Dt_211a_t_128a := Lib.hid (apart_call ot_211a Ot_128a.out)
                    have Dt_211a_t_137a := Lib.hid (apart_call ot_211a Ot_137a.out)
                    have Dt_211a_t_201 := Lib.hid (apart_call ot_211a Ot_201.out)
                    have Dt_211a_t_204a := Lib.hid (apart_call ot_211a Ot_204a.out)
                    have Ot_211a := Lib.hid (own_lower ot_211a HBwt_204.out.size)
                    clear ot_211a
                    have HBwt_211 := Lib.hid (Below.step HBwt_204.out bt_211)
                    replace Ot_5a := Lib.hid (own_below Ot_5a.out bt_211)
                    replace Ot_22a := Lib.hid (own_below Ot_22a.out bt_211)
                    replace Ot_33a := Lib.hid (own_below Ot_33a.out bt_211)
                    replace Ot_117a := Lib.hid (own_below Ot_117a.out bt_211)
                    replace Ot_128a := Lib.hid (own_below Ot_128a.out bt_211)
                    replace Ot_137a := Lib.hid (own_below Ot_137a.out bt_211)
                    replace Ot_201 := Lib.hid (own_below Ot_201.out bt_211)
                    replace Ot_204a := Lib.hid (own_below Ot_204a.out bt_211)
                    clear bt_211
                    replace H := let_hid H
                    obtain ⟨t_219, ht_219, H⟩ := H
                    replace H := join_hid H
                    cases t_219 with
                    | false =>
                      replace H := ite_f H
                      replace H := bind_hid H
                      obtain ⟨t_223, qt_223, H⟩ := H
                      go_wp2_with fail
                      go_at_call 55
                      refine (Go.Proofs.Ytlljmgphgmklcaa.GlVInts.C (t_204a) (t_211a) At_204a ct_204a At_211a ct_211a _   (Lib.hid (own_cells Ot_204a.out)) (Lib.hid (own_max Ot_204a.out)) (Lib.hid (own_cells Ot_211a.out)) (Lib.hid (own_max Ot_211a.out)) qt_223).mono ?_
                      rintro e_t_223 wt_223 ⟨rfl, bt_223⟩
                      have HBwt_223 := Lib.hid (Below.step HBwt_211.out bt_223)
                      replace Ot_5a := Lib.hid (own_below Ot_5a.out bt_223)
                      replace Ot_22a := Lib.hid (own_below Ot_22a.out bt_223)
                      replace Ot_33a := Lib.hid (own_below Ot_33a.out bt_223)
                      replace Ot_117a := Lib.hid (own_below Ot_117a.out bt_223)
                      replace Ot_128a := Lib.hid (own_below Ot_128a.out bt_223)
                      replace Ot_137a := Lib.hid (own_below Ot_137a.out bt_223)
                      replace Ot_201 := Lib.hid (own_below Ot_201.out bt_223)
                      replace Ot_204a := Lib.hid (own_below Ot_204a.out bt_223)
                      replace Ot_211a := Lib.hid (own_below Ot_211a.out bt_223)
                      clear bt_223
                      cases t_223 with
                      | false =>
                        replace H := let_hid H
                        obtain ⟨t_224, ht_224, H⟩ := H
                        obtain rfl : t_224 = true := ht_224.symm
                        replace H := app_hid H
                        replace H := ite_t H
                        obtain rfl := ret_hid H
                        go_wp2_with fail
                        go_ret
                        exact ⟨rfl, HBwt_223.out⟩
                      | true =>
                        replace H := let_hid H
                        obtain ⟨t_224, ht_224, H⟩ := H
                        obtain rfl : t_224 = false := ht_224.symm
                        replace H := app_hid H
                        replace H := ite_f H
                        replace H := bind4_hid H
                        obtain ⟨t_228a, t_228b, t_228c, t_228d, qt_228, H⟩ := H
                        go_wp2_with fail
                        go_at_call 74
                        refine (Go.Proofs.Ytlljmgphgmklcaa.GsDrawHeaviestFor.C fuel tapes (code) A0 c0 _  HE (Lib.hid (Cells.below M0.out HBwt_223.out)) N0 V0 qt_228).mono ?_
                        rintro e_t_228 wt_228 ⟨At_228a, ct_228a, rfl, ot_228a, bt_228⟩
                        have Dt_228a_t_5a := Lib.hid (apart_call ot_228a Ot_5a.out)
                        have Dt_228a_t_22a := Lib.hid (apart_call ot_228a Ot_22a.out)
                        have Dt_228a_t_33a := Lib.hid (apart_call ot_228a Ot_33a.out)
                        have Dt_228a_t_117a := Lib.hid (apart_call ot_228a Ot_117a.out)
                        have Dt_228a_t_128a := Lib.hid (apart_call ot_228a Ot_128a.out)
                        have Dt_228a_t_137a := Lib.hid (apart_call ot_228a Ot_137a.out)
                        have Dt_228a_t_201 := Lib.hid (apart_call ot_228a Ot_201.out)
                        have Dt_228a_t_204a := Lib.hid (apart_call ot_228a Ot_204a.out)
                        have Dt_228a_t_211a := Lib.hid (apart_call ot_228a Ot_211a.out)
                        have Ot_228a := Lib.hid (own_lower ot_228a HBwt_223.out.size)
                        clear ot_228a
                        have HBwt_228 := Lib.hid (Below.step HBwt_223.out bt_228)
                        replace Ot_5a := Lib.hid (own_below Ot_5a.out bt_228)
                        replace Ot_22a := Lib.hid (own_below Ot_22a.out bt_228)
                        replace Ot_33a := Lib.hid (own_below Ot_33a.out bt_228)
                        replace Ot_117a := Lib.hid (own_below Ot_117a.out bt_228)
                        replace Ot_128a := Lib.hid (own_below Ot_128a.out bt_228)
                        replace Ot_137a := Lib.hid (own_below Ot_137a.out bt_228)
                        replace Ot_201 := Lib.hid (own_below Ot_201.out bt_228)
                        replace Ot_204a := Lib.hid (own_below Ot_204a.out bt_228)
                        replace Ot_211a := Lib.hid (own_below Ot_211a.out bt_228)
                        clear bt_228
                        replace H := bind2_hid H
                        obtain ⟨t_242a, t_242b, qt_242, H⟩ := H
                        go_wp2_with fail
                        go_at_call 75
                        refine (Go.Proofs.Ytlljmgphgmklcaa.GiHeaviestFor.C (t_228a) (t_228b) (t_228c) (t_228d) At_228a ct_228a _   (Lib.hid (own_cells Ot_228a.out)) (Lib.hid (own_max Ot_228a.out)) qt_242).mono ?_
                        rintro e_t_242 wt_242 ⟨rfl, bt_242⟩
                        have HBwt_242 := Lib.hid (Below.step HBwt_228.out bt_242)
                        replace Ot_5a := Lib.hid (own_below Ot_5a.out bt_242)
                        replace Ot_22a := Lib.hid (own_below Ot_22a.out bt_242)
                        replace Ot_33a := Lib.hid (own_below Ot_33a.out bt_242)
                        replace Ot_117a := Lib.hid (own_below Ot_117a.out bt_242)
                        replace Ot_128a := Lib.hid (own_below Ot_128a.out bt_242)
                        replace Ot_137a := Lib.hid (own_below Ot_137a.out bt_242)
                        replace Ot_201 := Lib.hid (own_below Ot_201.out bt_242)
                        replace Ot_204a := Lib.hid (own_below Ot_204a.out bt_242)
                        replace Ot_211a := Lib.hid (own_below Ot_211a.out bt_242)
                        replace Ot_228a := Lib.hid (own_below Ot_228a.out bt_242)
                        clear bt_242
                        replace H := bind2_hid H
                        obtain ⟨t_252a, t_252b, qt_252, H⟩ := H
                        go_wp2_with fail
                        go_at_call 76
                        refine (Go.Proofs.Ytlljmgphgmklcaa.GsHeaviestFor.C fuel (t_228a) (t_228b) (t_228c) (t_228d) At_228a ct_228a _   (Lib.hid (own_cells Ot_228a.out)) (Lib.hid (own_max Ot_228a.out)) qt_252).mono ?_
                        rintro e_t_252 wt_252 ⟨rfl, bt_252⟩
                        have HBwt_252 := Lib.hid (Below.step HBwt_242.out bt_252)
                        replace Ot_5a := Lib.hid (own_below Ot_5a.out bt_252)
                        replace Ot_22a := Lib.hid (own_below Ot_22a.out bt_252)
                        replace Ot_33a := Lib.hid (own_below Ot_33a.out bt_252)
                        replace Ot_117a := Lib.hid (own_below Ot_117a.out bt_252)
                        replace Ot_128a := Lib.hid (own_below Ot_128a.out bt_252)
                        replace Ot_137a := Lib.hid (own_below Ot_137a.out bt_252)
                        replace Ot_201 := Lib.hid (own_below Ot_201.out bt_252)
                        replace Ot_204a := Lib.hid (own_below Ot_204a.out bt_252)
                        replace Ot_211a := Lib.hid (own_below Ot_211a.out bt_252)
                        replace Ot_228a := Lib.hid (own_below Ot_228a.out bt_252)
                        clear bt_252
                        replace H := let_hid H
                        obtain ⟨t_260, ht_260, H⟩ := H
                        replace H := join_hid H
                        cases t_260 with
                        | false =>
                          replace H := ite_f H
                          replace H := let_hid H
                          obtain ⟨t_264, ht_264, H⟩ := H
                          replace H := app_hid H
                          cases t_264 with
                          | false =>
                            replace H := ite_f H
                            cases t_242b with
                            | false =>
                              obtain rfl : t_252b = false := by revert ht_264; cases t_252b <;> simp
                              replace H := ite_f H
                              obtain rfl := ret_hid H
                              go_wp2_with fail
                              go_ret
                              exact ⟨rfl, HBwt_252.out⟩
                            | true =>
                              obtain rfl : t_252b = true := by revert ht_264; cases t_252b <;> simp
                              replace H := ite_t H
                              replace H := bind2_hid H
                              obtain ⟨t_272a, t_272b, qt_272, H⟩ := H
                              go_wp2_with fail
                              go_at_call 66
                              refine (Go.Proofs.Ytlljmgphgmklcaa.GiRateFor.C (t_228a) (t_228b) (t_228c) (t_242a) At_228a ct_228a _   (Lib.hid (own_cells Ot_228a.out)) (Lib.hid (own_max Ot_228a.out)) qt_272).mono ?_
                              rintro e_t_272 wt_272 ⟨rfl, bt_272⟩
                              have HBwt_272 := Lib.hid (Below.step HBwt_252.out bt_272)
                              replace Ot_5a := Lib.hid (own_below Ot_5a.out bt_272)
                              replace Ot_22a := Lib.hid (own_below Ot_22a.out bt_272)
                              replace Ot_33a := Lib.hid (own_below Ot_33a.out bt_272)
                              replace Ot_117a := Lib.hid (own_below Ot_117a.out bt_272)
                              replace Ot_128a := Lib.hid (own_below Ot_128a.out bt_272)
                              replace Ot_137a := Lib.hid (own_below Ot_137a.out bt_272)
                              replace Ot_201 := Lib.hid (own_below Ot_201.out bt_272)
                              replace Ot_204a := Lib.hid (own_below Ot_204a.out bt_272)
                              replace Ot_211a := Lib.hid (own_below Ot_211a.out bt_272)
                              replace Ot_228a := Lib.hid (own_below Ot_228a.out bt_272)
                              clear bt_272
                              replace H := join_hid H
                              cases t_272b with
                              | false =>
                                replace H := ite_f H
                                replace H := app_hid H
                                obtain rfl := ret_hid H
                                go_wp2_with fail
                                go_ret
                                exact ⟨rfl, HBwt_272.out⟩
                              | true =>
                                replace H := ite_t H
                                replace H := let_hid H
                                obtain ⟨t_282, ht_282, H⟩ := H
                                replace H := app_hid H
                                obtain rfl := ret_hid H
                                go_wp2_with fail
                                go_ret
                                exact ⟨rfl, HBwt_272.out⟩
                          | true =>
                            replace H := ite_t H
                            obtain rfl := ret_hid H
                            go_wp2_with fail
                            go_ret
                            exact ⟨rfl, HBwt_252.out⟩
                        | true =>
                          replace H := ite_t H
                          replace H := app_hid H
                          replace H := ite_t H
                          obtain rfl := ret_hid H
                          go_wp2_with fail
                          go_ret
                          exact ⟨rfl, HBwt_252.out⟩
                    | true =>
                      replace H := ite_t H
                      replace H := app_hid H
                      replace H := ite_t H
                      obtain rfl := ret_hid H
                      go_wp2_with fail
                      go_ret
                      exact ⟨rfl, HBwt_211.out⟩
                  | true =>
                    replace H := ite_t H
                    replace H := let_hid H
                    obtain ⟨t_162, ht_162, H⟩ := H
                    replace H := idx_hid H
                    obtain ⟨nt_163, yt_163, et_163, lt_163, gt_163, H⟩ := H
                    subst et_163
                    obtain ⟨qt_163, Qt_163⟩ := own_some Ot_128a.out (by omega)
                    subst Qt_163
                    obtain ⟨ab_t_163, ao_t_163, zt_163, At_163, z_t_163, ct_163_0⟩ := Go.Proofs.Ytlljmgphgmklcaa.HelpInt.Ints.at_ (own_cells Ot_128a.out) (k := nt_163) (by omega)
                    obtain rfl := Option.some.inj (gt_163.out.symm.trans z_t_163)
                    simp only [Option.some.injEq, Addr.mk.injEq] at At_163
                    obtain ⟨rfl, rfl, _⟩ := At_163
                    clear z_t_163
                    simp only [Nat.zero_add] at ct_163_0
                    have b0t_163 : (0 : Int) ≤ (nt_163 : Int) := by omega
                    have b1t_163 : (nt_163 : Int) < ((t_128a.length : Nat) : Int) := by omega
                    have b2t_163 : ((nt_163 : Int)).toNat = nt_163 := by omega
                    replace H := bind2_hid H
                    obtain ⟨t_166a, t_166b, qt_166, H⟩ := H
                    go_wp2_with fail
                    go_at_call 66
                    refine (Go.Proofs.Ytlljmgphgmklcaa.GiRateFor.C (t_117a) (t_117b) (yt_163) (t_117c) At_117a ct_117a _   (Lib.hid (own_cells Ot_117a.out)) (Lib.hid (own_max Ot_117a.out)) qt_166).mono ?_
                    rintro e_t_166 wt_166 ⟨rfl, bt_166⟩
                    have HBwt_166 := Lib.hid (Below.step HBwr0.out bt_166)
                    replace ct_163_0 := cell_below bt_166 ct_163_0
                    replace Ot_5a := Lib.hid (own_below Ot_5a.out bt_166)
                    replace Ot_22a := Lib.hid (own_below Ot_22a.out bt_166)
                    replace Ot_33a := Lib.hid (own_below Ot_33a.out bt_166)
                    replace Ot_117a := Lib.hid (own_below Ot_117a.out bt_166)
                    replace Ot_128a := Lib.hid (own_below Ot_128a.out bt_166)
                    replace Ot_137a := Lib.hid (own_below Ot_137a.out bt_166)
                    clear bt_166
                    replace H := idx_hid H
                    obtain ⟨nt_176, yt_176, et_176, lt_176, gt_176, H⟩ := H
                    subst et_176
                    have nc_1692 : nt_176 < t_128a.length := by have := of_decide_eq_true ht_157; omega
                    obtain ⟨ab_t_176, ao_t_176, zt_176, At_176, z_t_176, ct_176_0⟩ := Go.Proofs.Ytlljmgphgmklcaa.HelpInt.Ints.at_ (own_cells Ot_128a.out) (k := nt_176) (by omega)
                    obtain rfl := Option.some.inj (gt_176.out.symm.trans z_t_176)
                    simp only [Option.some.injEq, Addr.mk.injEq] at At_176
                    obtain ⟨rfl, rfl, _⟩ := At_176
                    clear z_t_176
                    simp only [Nat.zero_add] at ct_176_0
                    have b0t_176 : (0 : Int) ≤ (nt_176 : Int) := by omega
                    have b1t_176 : (nt_176 : Int) < ((t_128a.length : Nat) : Int) := by omega
                    have b2t_176 : ((nt_176 : Int)).toNat = nt_176 := by omega
                    replace H := bind2_hid H
                    obtain ⟨t_179a, t_179b, qt_179, H⟩ := H
                    go_wp2_with fail
                    go_at_call 66
                    refine (Go.Proofs.Ytlljmgphgmklcaa.GiRateFor.C (t_117a) (t_117b) (yt_176) (t_117c) At_117a ct_117a _   (Lib.hid (own_cells Ot_117a.out)) (Lib.hid (own_max Ot_117a.out)) qt_179).mono ?_
                    rintro e_t_179 wt_179 ⟨rfl, bt_179⟩
                    have HBwt_179 := Lib.hid (Below.step HBwt_166.out bt_179)
                    replace ct_163_0 := cell_below bt_179 ct_163_0
                    replace ct_176_0 := cell_below bt_179 ct_176_0
                    replace Ot_5a := Lib.hid (own_below Ot_5a.out bt_179)
                    replace Ot_22a := Lib.hid (own_below Ot_22a.out bt_179)
                    replace Ot_33a := Lib.hid (own_below Ot_33a.out bt_179)
                    replace Ot_117a := Lib.hid (own_below Ot_117a.out bt_179)
                    replace Ot_128a := Lib.hid (own_below Ot_128a.out bt_179)
                    replace Ot_137a := Lib.hid (own_below Ot_137a.out bt_179)
                    clear bt_179
                    cases t_166b with
                    | false =>
                      replace H := let_hid H
                      obtain ⟨t_186, ht_186, H⟩ := H
                      obtain rfl : t_186 = true := ht_186.symm
                      replace H := join_hid H
                      replace H := ite_t H
                      replace H := app_hid H
                      replace H := join_hid H
                      replace H := ite_t H
                      replace H := app_hid H
                      replace H := ite_t H
                      obtain rfl := ret_hid H
                      go_wp2_with fail
                      go_ret
                      exact ⟨rfl, HBwt_179.out⟩
                    | true =>
                      replace H := let_hid H
                      obtain ⟨t_186, ht_186, H⟩ := H
                      obtain rfl : t_186 = false := ht_186.symm
                      replace H := join_hid H
                      replace H := ite_f H
                      cases t_179b with
                      | false =>
                        replace H := let_hid H
                        obtain ⟨t_189, ht_189, H⟩ := H
                        obtain rfl : t_189 = true := ht_189.symm
                        replace H := app_hid H
                        replace H := join_hid H
                        replace H := ite_t H
                        replace H := app_hid H
                        replace H := ite_t H
                        obtain rfl := ret_hid H
                        go_wp2_with fail
                        go_ret
                        exact ⟨rfl, HBwt_179.out⟩
                      | true =>
                        replace H := let_hid H
                        obtain ⟨t_189, ht_189, H⟩ := H
                        obtain rfl : t_189 = false := ht_189.symm
                        replace H := app_hid H
                        replace H := join_hid H
                        replace H := ite_f H
                        replace H := let_hid H
                        obtain ⟨t_194, ht_194, H⟩ := H
                        replace H := app_hid H
                        cases t_194 with
                        | false =>
                          replace H := ite_f H
                          replace H := let_hid H
                          obtain ⟨t_198, ht_198, H⟩ := H
                          replace H := app_hid H
                          go_wp2_with fail
                          go_roundg m0
                          case measure => omega
                          case rel => exact ⟨_, rfl, H, HBwt_179, Ot_5a, Ot_22a, Ot_33a, Ot_117a, Ot_128a, Ot_137a⟩
                        | true =>
                          replace H := ite_t H
                          obtain rfl := ret_hid H
                          go_wp2_with fail
                          go_ret
                          exact ⟨rfl, HBwt_179.out⟩
          | true =>
            replace H := ite_t H
            replace H := app_hid H
            replace H := ite_t H
            obtain rfl := ret_hid H
            go_wp2_with fail
            go_ret
            exact ⟨rfl, HBwt_137.out⟩
        | true =>
          obtain rfl : t_33b = true := by revert ht_41; cases t_33b <;> simp
          replace H := ite_t H
          replace H := bind2_hid H
          obtain ⟨t_54a, t_54b, qt_54, H⟩ := H
          go_wp2_with fail
          go_at_call 66
          refine (Go.Proofs.Ytlljmgphgmklcaa.GiRateFor.C (t_22a) (t_5d) (t_5b) (t_5c) At_22a ct_22a _   (Lib.hid (own_cells Ot_22a.out)) (Lib.hid (own_max Ot_22a.out)) qt_54).mono ?_
          rintro e_t_54 wt_54 ⟨rfl, bt_54⟩
          have HBwt_54 := Lib.hid (Below.step HBwt_45.out bt_54)
          replace Ot_5a := Lib.hid (own_below Ot_5a.out bt_54)
          replace Ot_22a := Lib.hid (own_below Ot_22a.out bt_54)
          replace Ot_33a := Lib.hid (own_below Ot_33a.out bt_54)
          clear bt_54
          replace H := let_hid H
          obtain ⟨t_62, ht_62, H⟩ := H
          replace H := bind2_hid H
          obtain ⟨t_65a, t_65b, qt_65, H⟩ := H
          go_wp2_with fail
          go_at_call 66
          refine (Go.Proofs.Ytlljmgphgmklcaa.GiRateFor.C (t_22a) (t_62) (t_5b) (t_5c) At_22a ct_22a _   (Lib.hid (own_cells Ot_22a.out)) (Lib.hid (own_max Ot_22a.out)) qt_65).mono ?_
          rintro e_t_65 wt_65 ⟨rfl, bt_65⟩
          have HBwt_65 := Lib.hid (Below.step HBwt_54.out bt_65)
          replace Ot_5a := Lib.hid (own_below Ot_5a.out bt_65)
          replace Ot_22a := Lib.hid (own_below Ot_22a.out bt_65)
          replace Ot_33a := Lib.hid (own_below Ot_33a.out bt_65)
          clear bt_65
          replace H := let_hid H
          obtain ⟨t_73, ht_73, H⟩ := H
          obtain rfl := ht_62.symm.trans ht_73
          replace H := bind2_hid H
          obtain ⟨t_76a, t_76b, qt_76, H⟩ := H
          go_wp2_with fail
          go_at_call 66
          refine (Go.Proofs.Ytlljmgphgmklcaa.GiRateFor.C (t_5a) (t_62) (t_5b) (t_5c) At_5a ct_5a _   (Lib.hid (own_cells Ot_5a.out)) (Lib.hid (own_max Ot_5a.out)) qt_76).mono ?_
          rintro e_t_76 wt_76 ⟨rfl, bt_76⟩
          have HBwt_76 := Lib.hid (Below.step HBwt_65.out bt_76)
          replace Ot_5a := Lib.hid (own_below Ot_5a.out bt_76)
          replace Ot_22a := Lib.hid (own_below Ot_22a.out bt_76)
          replace Ot_33a := Lib.hid (own_below Ot_33a.out bt_76)
          clear bt_76
          cases t_54b with
          | false =>
            replace H := let_hid H
            obtain ⟨t_83, ht_83, H⟩ := H
            obtain rfl : t_83 = true := ht_83.symm
            replace H := join_hid H
            replace H := ite_t H
            replace H := app_hid H
            replace H := join_hid H
            replace H := ite_t H
            replace H := app_hid H
            replace H := join_hid H
            replace H := ite_t H
            replace H := app_hid H
            replace H := join_hid H
            replace H := ite_t H
            replace H := app_hid H
            replace H := join_hid H
            replace H := ite_t H
            replace H := app_hid H
            replace H := join_hid H
            replace H := ite_t H
            replace H := app_hid H
            replace H := ite_t H
            obtain rfl := ret_hid H
            go_wp2_with fail
            go_ret
            exact ⟨rfl, HBwt_76.out⟩
          | true =>
            replace H := let_hid H
            obtain ⟨t_83, ht_83, H⟩ := H
            obtain rfl : t_83 = false := ht_83.symm
            replace H := join_hid H
            replace H := ite_f H
            cases t_65b with
            | false =>
              replace H := let_hid H
              obtain ⟨t_86, ht_86, H⟩ := H
              obtain rfl : t_86 = true := ht_86.symm
              replace H := app_hid H
              replace H := join_hid H
              replace H := ite_t H
              replace H := app_hid H
              replace H := join_hid H
              replace H := ite_t H
              replace H := app_hid H
              replace H := join_hid H
              replace H := ite_t H
              replace H := app_hid H
              replace H := join_hid H
              replace H := ite_t H
              replace H := app_hid H
              replace H := join_hid H
              replace H := ite_t H
              replace H := app_hid H
              replace H := ite_t H
              obtain rfl := ret_hid H
              go_wp2_with fail
              go_ret
              exact ⟨rfl, HBwt_76.out⟩
            | true =>
              replace H := let_hid H
              obtain ⟨t_86, ht_86, H⟩ := H
              obtain rfl : t_86 = false := ht_86.symm
              replace H := app_hid H
              replace H := join_hid H
              replace H := ite_f H
              cases t_76b with
              | false =>
                replace H := let_hid H
                obtain ⟨t_90, ht_90, H⟩ := H
                obtain rfl : t_90 = true := ht_90.symm
                replace H := app_hid H
                replace H := join_hid H
                replace H := ite_t H
                replace H := app_hid H
                replace H := join_hid H
                replace H := ite_t H
                replace H := app_hid H
                replace H := join_hid H
                replace H := ite_t H
                replace H := app_hid H
                replace H := join_hid H
                replace H := ite_t H
                replace H := app_hid H
                replace H := ite_t H
                obtain rfl := ret_hid H
                go_wp2_with fail
                go_ret
                exact ⟨rfl, HBwt_76.out⟩
              | true =>
                replace H := let_hid H
                obtain ⟨t_90, ht_90, H⟩ := H
                obtain rfl : t_90 = false := ht_90.symm
                replace H := app_hid H
                replace H := join_hid H
                replace H := ite_f H
                replace H := let_hid H
                obtain ⟨t_95, ht_95, H⟩ := H
                replace H := app_hid H
                replace H := join_hid H
                cases t_95 with
                | false =>
                  replace H := ite_f H
                  replace H := let_hid H
                  obtain ⟨t_100, ht_100, H⟩ := H
                  replace H := app_hid H
                  replace H := join_hid H
                  cases t_100 with
                  | false =>
                    replace H := ite_f H
                    replace H := let_hid H
                    obtain ⟨t_107, ht_107, H⟩ := H
                    replace H := let_hid H
                    obtain ⟨t_108, ht_108, H⟩ := H
                    replace H := app_hid H
                    replace H := join_hid H
                    cases t_108 with
                    | false =>
                      replace H := ite_f H
                      replace H := bind_hid H
                      obtain ⟨t_112, qt_112, H⟩ := H
                      go_wp2_with fail
                      go_at_call 67
                      refine (Go.Proofs.Ytlljmgphgmklcaa.GiAreRates.C (t_22a) At_22a ct_22a _   (Lib.hid (own_cells Ot_22a.out)) (Lib.hid (own_max Ot_22a.out)) qt_112).mono ?_
                      rintro e_t_112 wt_112 ⟨rfl, bt_112⟩
                      have HBwt_112 := Lib.hid (Below.step HBwt_76.out bt_112)
                      replace Ot_5a := Lib.hid (own_below Ot_5a.out bt_112)
                      replace Ot_22a := Lib.hid (own_below Ot_22a.out bt_112)
                      replace Ot_33a := Lib.hid (own_below Ot_33a.out bt_112)
                      clear bt_112
                      cases t_112 with
                      | false =>
                        replace H := let_hid H
                        obtain ⟨t_113, ht_113, H⟩ := H
                        obtain rfl : t_113 = true := ht_113.symm
                        replace H := app_hid H
                        replace H := ite_t H
                        obtain rfl := ret_hid H
                        go_wp2_with fail
                        go_ret
                        exact ⟨rfl, HBwt_112.out⟩
                      | true =>
                        replace H := let_hid H
                        obtain ⟨t_113, ht_113, H⟩ := H
                        obtain rfl : t_113 = false := ht_113.symm
                        replace H := app_hid H
                        replace H := ite_f H
                        unfold j0 at H
                        replace H := bind3_hid H
                        obtain ⟨t_117a, t_117b, t_117c, qt_117, H⟩ := H
                        go_wp2_with fail
                        go_at_call 68
                        refine (Go.Proofs.Ytlljmgphgmklcaa.GsDrawCheapestZones.C fuel tapes (code) A0 c0 _  HE (Lib.hid (Cells.below M0.out HBwt_112.out)) N0 V0 qt_117).mono ?_
                        rintro e_t_117 wt_117 ⟨At_117a, ct_117a, rfl, ot_117a, bt_117⟩
                        have Dt_117a_t_5a := Lib.hid (apart_call ot_117a Ot_5a.out)
                        have Dt_117a_t_22a := Lib.hid (apart_call ot_117a Ot_22a.out)
                        have Dt_117a_t_33a := Lib.hid (apart_call ot_117a Ot_33a.out)
                        have Ot_117a := Lib.hid (own_lower ot_117a HBwt_112.out.size)
                        clear ot_117a
                        have HBwt_117 := Lib.hid (Below.step HBwt_112.out bt_117)
                        replace Ot_5a := Lib.hid (own_below Ot_5a.out bt_117)
                        replace Ot_22a := Lib.hid (own_below Ot_22a.out bt_117)
                        replace Ot_33a := Lib.hid (own_below Ot_33a.out bt_117)
                        clear bt_117
                        replace H := bind2_hid H
                        obtain ⟨t_128a, t_128b, qt_128, H⟩ := H
                        go_wp2_with fail
                        go_at_call 69
                        refine (Go.Proofs.Ytlljmgphgmklcaa.GiCheapestZones.C (t_117a) (t_117b) (t_117c) At_117a ct_117a _   (Lib.hid (own_cells Ot_117a.out)) (Lib.hid (own_max Ot_117a.out)) qt_128).mono ?_
                        rintro e_t_128 wt_128 ⟨At_128a, ct_128a, rfl, ot_128a, bt_128⟩
                        have Dt_128a_t_5a := Lib.hid (apart_call ot_128a Ot_5a.out)
                        have Dt_128a_t_22a := Lib.hid (apart_call ot_128a Ot_22a.out)
                        have Dt_128a_t_33a := Lib.hid (apart_call ot_128a Ot_33a.out)
                        have Dt_128a_t_117a := Lib.hid (apart_call ot_128a Ot_117a.out)
                        have Ot_128a := Lib.hid (own_lower ot_128a HBwt_117.out.size)
                        clear ot_128a
                        have HBwt_128 := Lib.hid (Below.step HBwt_117.out bt_128)
                        replace Ot_5a := Lib.hid (own_below Ot_5a.out bt_128)
                        replace Ot_22a := Lib.hid (own_below Ot_22a.out bt_128)
                        replace Ot_33a := Lib.hid (own_below Ot_33a.out bt_128)
                        replace Ot_117a := Lib.hid (own_below Ot_117a.out bt_128)
                        clear bt_128
                        replace H := bind2_hid H
                        obtain ⟨t_137a, t_137b, qt_137, H⟩ := H
                        go_wp2_with fail
                        go_at_call 70
                        refine (Go.Proofs.Ytlljmgphgmklcaa.GsCheapestZones.C fuel (t_117a) (t_117b) (t_117c) At_117a ct_117a _   (Lib.hid (own_cells Ot_117a.out)) (Lib.hid (own_max Ot_117a.out)) qt_137).mono ?_
                        rintro e_t_137 wt_137 ⟨At_137a, ct_137a, rfl, ot_137a, bt_137⟩
                        have Dt_137a_t_5a := Lib.hid (apart_call ot_137a Ot_5a.out)
                        have Dt_137a_t_22a := Lib.hid (apart_call ot_137a Ot_22a.out)
                        have Dt_137a_t_33a := Lib.hid (apart_call ot_137a Ot_33a.out)
                        have Dt_137a_t_117a := Lib.hid (apart_call ot_137a Ot_117a.out)
                        have Dt_137a_t_128a := Lib.hid (apart_call ot_137a Ot_128a.out)
                        have Ot_137a := Lib.hid (own_lower ot_137a HBwt_128.out.size)
                        clear ot_137a
                        have HBwt_137 := Lib.hid (Below.step HBwt_128.out bt_137)
                        replace Ot_5a := Lib.hid (own_below Ot_5a.out bt_137)
                        replace Ot_22a := Lib.hid (own_below Ot_22a.out bt_137)
                        replace Ot_33a := Lib.hid (own_below Ot_33a.out bt_137)
                        replace Ot_117a := Lib.hid (own_below Ot_117a.out bt_137)
                        replace Ot_128a := Lib.hid (own_below Ot_128a.out bt_137)
                        clear bt_137
                        replace H := let_hid H
                        obtain ⟨t_145, ht_145, H⟩ := H
                        replace H := join_hid H
                        cases t_145 with
                        | false =>
                          replace H := ite_f H
                          replace H := bind_hid H
                          obtain ⟨t_149, qt_149, H⟩ := H
                          go_wp2_with fail
                          go_at_call 55
                          refine (Go.Proofs.Ytlljmgphgmklcaa.GlVInts.C (t_128a) (t_137a) At_128a ct_128a At_137a ct_137a _   (Lib.hid (own_cells Ot_128a.out)) (Lib.hid (own_max Ot_128a.out)) (Lib.hid (own_cells Ot_137a.out)) (Lib.hid (own_max Ot_137a.out)) qt_149).mono ?_
                          rintro e_t_149 wt_149 ⟨rfl, bt_149⟩
                          have HBwt_149 := Lib.hid (Below.step HBwt_137.out bt_149)
                          replace Ot_5a := Lib.hid (own_below Ot_5a.out bt_149)
                          replace Ot_22a := Lib.hid (own_below Ot_22a.out bt_149)
                          replace Ot_33a := Lib.hid (own_below Ot_33a.out bt_149)
                          replace Ot_117a := Lib.hid (own_below Ot_117a.out bt_149)
                          replace Ot_128a := Lib.hid (own_below Ot_128a.out bt_149)
                          replace Ot_137a := Lib.hid (own_below Ot_137a.out bt_149)
                          clear bt_149
                          cases t_149 with
                          | false =>
                            replace H := let_hid H
                            obtain ⟨t_150, ht_150, H⟩ := H
                            obtain rfl : t_150 = true := ht_150.symm
                            replace H := app_hid H
                            replace H := ite_t H
                            obtain rfl := ret_hid H
                            go_wp2_with fail
                            go_ret
                            exact ⟨rfl, HBwt_149.out⟩
                          | true =>
                            replace H := let_hid H
                            obtain ⟨t_150, ht_150, H⟩ := H
                            obtain rfl : t_150 = false := ht_150.symm
                            replace H := app_hid H
                            replace H := ite_f H
                            go_wp2_with fail
                            go_loopg [25] (fuel) (fun m_ v25_ wr => ∃ (i_25l0 : Int), v25_ = .int .i64 i_25l0 ∧ Hid (loopK (l0 t_117a t_117b t_117c t_128a) m_ (i_25l0) (e0 code fuel tapes) = some r) ∧ Hid (Below w.heap.size w wr) ∧ Hid (wr.ownsRow w.heap.size 104 5 (.slice At_5a t_5a.length ct_5a) t_5a.length (Go.Proofs.Ytlljmgphgmklcaa.PRate.flat t_5a)) ∧ Hid (wr.ownsRow w.heap.size 104 5 (.slice At_22a t_22a.length ct_22a) t_22a.length (Go.Proofs.Ytlljmgphgmklcaa.PRate.flat t_22a)) ∧ Hid (wr.ownsRow w.heap.size 104 5 (.slice At_33a t_33a.length ct_33a) t_33a.length (Go.Proofs.Ytlljmgphgmklcaa.PRate.flat t_33a)) ∧ Hid (wr.ownsRow w.heap.size 104 5 (.slice At_117a t_117a.length ct_117a) t_117a.length (Go.Proofs.Ytlljmgphgmklcaa.PRate.flat t_117a)) ∧ Hid (wr.ownsRow w.heap.size 3 1 (.slice At_128a t_128a.length ct_128a) t_128a.length (Go.Proofs.Ytlljmgphgmklcaa.HelpInt.iv t_128a)) ∧ Hid (wr.ownsRow w.heap.size 3 1 (.slice At_137a t_137a.length ct_137a) t_137a.length (Go.Proofs.Ytlljmgphgmklcaa.HelpInt.iv t_137a)))
                            case atStart => exact ⟨_, rfl, H, HBwt_149, Ot_5a, Ot_22a, Ot_33a, Ot_117a, Ot_128a, Ot_137a⟩
                            case round =>
                              obtain ⟨i_25l0, rfl, H, HBwr0, Ot_5a, Ot_22a, Ot_33a, Ot_117a, Ot_128a, Ot_137a⟩ := hrel
                              rename World => wr0
                              cases gk with
                              | zero => exact (loop_zero H).elim
                              | succ m0 =>
                                replace H := loop_succ H
                                unfold l0 at H
                                replace H := let_hid H
                                obtain ⟨_, rfl, H⟩ := H
                                replace H := let_hid H
                                obtain ⟨t_157, ht_157, H⟩ := H
                                cases t_157 with
                                | false =>
                                  replace H := ite_f H
                                  replace H := app_hid H
                                  unfold e0 at H
                                  replace H := let_hid H
                                  obtain ⟨_, rfl, H⟩ := H
                                  replace H := bind_hid H
                                  obtain ⟨t_201, qt_201, H⟩ := H
                                  go_wp2_with fail
                                  go_at_call 71
                                  refine (Go.Proofs.Ytlljmgphgmklcaa.GsDrawStrangeRates.C fuel tapes (code) A0 c0 _  HE (Lib.hid (Cells.below M0.out HBwr0.out)) N0 V0 qt_201).mono ?_
                                  rintro e_t_201 wt_201 ⟨At_201, ct_201, rfl, ot_201, bt_201⟩
                                  have Dt_201_t_5a := Lib.hid (apart_call ot_201 Ot_5a.out)
                                  have Dt_201_t_22a := Lib.hid (apart_call ot_201 Ot_22a.out)
                                  have Dt_201_t_33a := Lib.hid (apart_call ot_201 Ot_33a.out)
                                  have Dt_201_t_117a := Lib.hid (apart_call ot_201 Ot_117a.out)
                                  have Dt_201_t_128a := Lib.hid (apart_call ot_201 Ot_128a.out)
                                  have Dt_201_t_137a := Lib.hid (apart_call ot_201 Ot_137a.out)
                                  have Ot_201 := Lib.hid (own_lower ot_201 HBwr0.out.size)
                                  clear ot_201
                                  have HBwt_201 := Lib.hid (Below.step HBwr0.out bt_201)
                                  replace Ot_5a := Lib.hid (own_below Ot_5a.out bt_201)
                                  replace Ot_22a := Lib.hid (own_below Ot_22a.out bt_201)
                                  replace Ot_33a := Lib.hid (own_below Ot_33a.out bt_201)
                                  replace Ot_117a := Lib.hid (own_below Ot_117a.out bt_201)
                                  replace Ot_128a := Lib.hid (own_below Ot_128a.out bt_201)
                                  replace Ot_137a := Lib.hid (own_below Ot_137a.out bt_201)
                                  clear bt_201
                                  replace H := bind2_hid H
                                  obtain ⟨t_204a, t_204b, qt_204, H⟩ := H
                                  go_wp2_with fail
                                  go_at_call 72
                                  refine (Go.Proofs.Ytlljmgphgmklcaa.GiStrangeRates.C (t_201) At_201 ct_201 _   (Lib.hid (own_cells Ot_201.out)) (Lib.hid (own_max Ot_201.out)) qt_204).mono ?_
                                  rintro e_t_204 wt_204 ⟨At_204a, ct_204a, rfl, ot_204a, bt_204⟩
                                  have Dt_204a_t_5a := Lib.hid (apart_call ot_204a Ot_5a.out)
                                  have Dt_204a_t_22a := Lib.hid (apart_call ot_204a Ot_22a.out)
                                  have Dt_204a_t_33a := Lib.hid (apart_call ot_204a Ot_33a.out)
                                  have Dt_204a_t_117a := Lib.hid (apart_call ot_204a Ot_117a.out)
                                  have Dt_204a_t_128a := Lib.hid (apart_call ot_204a Ot_128a.out)
                                  have Dt_204a_t_137a := Lib.hid (apart_call ot_204a Ot_137a.out)
                                  have Dt_204a_t_201 := Lib.hid (apart_call ot_204a Ot_201.out)
                                  have Ot_204a := Lib.hid (own_lower ot_204a HBwt_201.out.size)
                                  clear ot_204a
                                  have HBwt_204 := Lib.hid (Below.step HBwt_201.out bt_204)
                                  replace Ot_5a := Lib.hid (own_below Ot_5a.out bt_204)
                                  replace Ot_22a := Lib.hid (own_below Ot_22a.out bt_204)
                                  replace Ot_33a := Lib.hid (own_below Ot_33a.out bt_204)
                                  replace Ot_117a := Lib.hid (own_below Ot_117a.out bt_204)
                                  replace Ot_128a := Lib.hid (own_below Ot_128a.out bt_204)
                                  replace Ot_137a := Lib.hid (own_below Ot_137a.out bt_204)
                                  replace Ot_201 := Lib.hid (own_below Ot_201.out bt_204)
                                  clear bt_204
                                  replace H := bind2_hid H
                                  obtain ⟨t_211a, t_211b, qt_211, H⟩ := H
                                  go_wp2_with fail
                                  go_at_call 73
                                  refine (Go.Proofs.Ytlljmgphgmklcaa.GsStrangeRates.C fuel (t_201) At_201 ct_201 _   (Lib.hid (own_cells Ot_201.out)) (Lib.hid (own_max Ot_201.out)) qt_211).mono ?_
                                  rintro e_t_211 wt_211 ⟨At_211a, ct_211a, rfl, ot_211a, bt_211⟩
                                  have Dt_211a_t_5a := Lib.hid (apart_call ot_211a Ot_5a.out)
                                  have Dt_211a_t_22a := Lib.hid (apart_call ot_211a Ot_22a.out)
                                  have Dt_211a_t_33a := Lib.hid (apart_call ot_211a Ot_33a.out)
                                  have Dt_211a_t_117a := Lib.hid (apart_call ot_211a Ot_117a.out)
                                  have Dt_211a_t_128a := Lib.hid (apart_call ot_211a Ot_128a.out)
                                  have Dt_211a_t_137a := Lib.hid (apart_call ot_211a Ot_137a.out)
                                  have Dt_211a_t_201 := Lib.hid (apart_call ot_211a Ot_201.out)
                                  have Dt_211a_t_204a := Lib.hid (apart_call ot_211a Ot_204a.out)
                                  have Ot_211a := Lib.hid (own_lower ot_211a HBwt_204.out.size)
                                  clear ot_211a
                                  have HBwt_211 := Lib.hid (Below.step HBwt_204.out bt_211)
                                  replace Ot_5a := Lib.hid (own_below Ot_5a.out bt_211)
                                  replace Ot_22a := Lib.hid (own_below Ot_22a.out bt_211)
                                  replace Ot_33a := Lib.hid (own_below Ot_33a.out bt_211)
                                  replace Ot_117a := Lib.hid (own_below Ot_117a.out bt_211)
                                  replace Ot_128a := Lib.hid (own_below Ot_128a.out bt_211)
                                  replace Ot_137a := Lib.hid (own_below Ot_137a.out bt_211)
                                  replace Ot_201 := Lib.hid (own_below Ot_201.out bt_211)
                                  replace Ot_204a := Lib.hid (own_below Ot_204a.out bt_211)
                                  clear bt_211
                                  replace H := let_hid H
                                  obtain ⟨t_219, ht_219, H⟩ := H
                                  replace H := join_hid H
                                  cases t_219 with
                                  | false =>
                                    replace H := ite_f H
                                    replace H := bind_hid H
                                    obtain ⟨t_223, qt_223, H⟩ := H
                                    go_wp2_with fail
                                    go_at_call 55
                                    refine (Go.Proofs.Ytlljmgphgmklcaa.GlVInts.C (t_204a) (t_211a) At_204a ct_204a At_211a ct_211a _   (Lib.hid (own_cells Ot_204a.out)) (Lib.hid (own_max Ot_204a.out)) (Lib.hid (own_cells Ot_211a.out)) (Lib.hid (own_max Ot_211a.out)) qt_223).mono ?_
                                    rintro e_t_223 wt_223 ⟨rfl, bt_223⟩
                                    have HBwt_223 := Lib.hid (Below.step HBwt_211.out bt_223)
                                    replace Ot_5a := Lib.hid (own_below Ot_5a.out bt_223)
                                    replace Ot_22a := Lib.hid (own_below Ot_22a.out bt_223)
                                    replace Ot_33a := Lib.hid (own_below Ot_33a.out bt_223)
                                    replace Ot_117a := Lib.hid (own_below Ot_117a.out bt_223)
                                    replace Ot_128a := Lib.hid (own_below Ot_128a.out bt_223)
                                    replace Ot_137a := Lib.hid (own_below Ot_137a.out bt_223)
                                    replace Ot_201 := Lib.hid (own_below Ot_201.out bt_223)
                                    replace Ot_204a := Lib.hid (own_below Ot_204a.out bt_223)
                                    replace Ot_211a := Lib.hid (own_below Ot_211a.out bt_223)
                                    clear bt_223
                                    cases t_223 with
                                    | false =>
                                      replace H := let_hid H
                                      obtain ⟨t_224, ht_224, H⟩ := H
                                      obtain rfl : t_224 = true := ht_224.symm
                                      replace H := app_hid H
                                      replace H := ite_t H
                                      obtain rfl := ret_hid H
                                      go_wp2_with fail
                                      go_ret
                                      exact ⟨rfl, HBwt_223.out⟩
                                    | true =>
                                      replace H := let_hid H
                                      obtain ⟨t_224, ht_224, H⟩ := H
                                      obtain rfl : t_224 = false := ht_224.symm
                                      replace H := app_hid H
                                      replace H := ite_f H
                                      replace H := bind4_hid H
                                      obtain ⟨t_228a, t_228b, t_228c, t_228d, qt_228, H⟩ := H
                                      go_wp2_with fail
                                      go_at_call 74
                                      refine (Go.Proofs.Ytlljmgphgmklcaa.GsDrawHeaviestFor.C fuel tapes (code) A0 c0 _  HE (Lib.hid (Cells.below M0.out HBwt_223.out)) N0 V0 qt_228).mono ?_
                                      rintro e_t_228 wt_228 ⟨At_228a, ct_228a, rfl, ot_228a, bt_228⟩
                                      have Dt_228a_t_5a := Lib.hid (apart_call ot_228a Ot_5a.out)
                                      have Dt_228a_t_22a := Lib.hid (apart_call ot_228a Ot_22a.out)
                                      have Dt_228a_t_33a := Lib.hid (apart_call ot_228a Ot_33a.out)
                                      have Dt_228a_t_117a := Lib.hid (apart_call ot_228a Ot_117a.out)
                                      have Dt_228a_t_128a := Lib.hid (apart_call ot_228a Ot_128a.out)
                                      have Dt_228a_t_137a := Lib.hid (apart_call ot_228a Ot_137a.out)
                                      have Dt_228a_t_201 := Lib.hid (apart_call ot_228a Ot_201.out)
                                      have Dt_228a_t_204a := Lib.hid (apart_call ot_228a Ot_204a.out)
                                      have Dt_228a_t_211a := Lib.hid (apart_call ot_228a Ot_211a.out)
                                      have Ot_228a := Lib.hid (own_lower ot_228a HBwt_223.out.size)
                                      clear ot_228a
                                      have HBwt_228 := Lib.hid (Below.step HBwt_223.out bt_228)
                                      replace Ot_5a := Lib.hid (own_below Ot_5a.out bt_228)
                                      replace Ot_22a := Lib.hid (own_below Ot_22a.out bt_228)
                                      replace Ot_33a := Lib.hid (own_below Ot_33a.out bt_228)
                                      replace Ot_117a := Lib.hid (own_below Ot_117a.out bt_228)
                                      replace Ot_128a := Lib.hid (own_below Ot_128a.out bt_228)
                                      replace Ot_137a := Lib.hid (own_below Ot_137a.out bt_228)
                                      replace Ot_201 := Lib.hid (own_below Ot_201.out bt_228)
                                      replace Ot_204a := Lib.hid (own_below Ot_204a.out bt_228)
                                      replace Ot_211a := Lib.hid (own_below Ot_211a.out bt_228)
                                      clear bt_228
                                      replace H := bind2_hid H
                                      obtain ⟨t_242a, t_242b, qt_242, H⟩ := H
                                      go_wp2_with fail
                                      go_at_call 75
                                      refine (Go.Proofs.Ytlljmgphgmklcaa.GiHeaviestFor.C (t_228a) (t_228b) (t_228c) (t_228d) At_228a ct_228a _   (Lib.hid (own_cells Ot_228a.out)) (Lib.hid (own_max Ot_228a.out)) qt_242).mono ?_
                                      rintro e_t_242 wt_242 ⟨rfl, bt_242⟩
                                      have HBwt_242 := Lib.hid (Below.step HBwt_228.out bt_242)
                                      replace Ot_5a := Lib.hid (own_below Ot_5a.out bt_242)
                                      replace Ot_22a := Lib.hid (own_below Ot_22a.out bt_242)
                                      replace Ot_33a := Lib.hid (own_below Ot_33a.out bt_242)
                                      replace Ot_117a := Lib.hid (own_below Ot_117a.out bt_242)
                                      replace Ot_128a := Lib.hid (own_below Ot_128a.out bt_242)
                                      replace Ot_137a := Lib.hid (own_below Ot_137a.out bt_242)
                                      replace Ot_201 := Lib.hid (own_below Ot_201.out bt_242)
                                      replace Ot_204a := Lib.hid (own_below Ot_204a.out bt_242)
                                      replace Ot_211a := Lib.hid (own_below Ot_211a.out bt_242)
                                      replace Ot_228a := Lib.hid (own_below Ot_228a.out bt_242)
                                      clear bt_242
                                      replace H := bind2_hid H
                                      obtain ⟨t_252a, t_252b, qt_252, H⟩ := H
                                      go_wp2_with fail
                                      go_at_call 76
                                      refine (Go.Proofs.Ytlljmgphgmklcaa.GsHeaviestFor.C fuel (t_228a) (t_228b) (t_228c) (t_228d) At_228a ct_228a _   (Lib.hid (own_cells Ot_228a.out)) (Lib.hid (own_max Ot_228a.out)) qt_252).mono ?_
                                      rintro e_t_252 wt_252 ⟨rfl, bt_252⟩
                                      have HBwt_252 := Lib.hid (Below.step HBwt_242.out bt_252)
                                      replace Ot_5a := Lib.hid (own_below Ot_5a.out bt_252)
                                      replace Ot_22a := Lib.hid (own_below Ot_22a.out bt_252)
                                      replace Ot_33a := Lib.hid (own_below Ot_33a.out bt_252)
                                      replace Ot_117a := Lib.hid (own_below Ot_117a.out bt_252)
                                      replace Ot_128a := Lib.hid (own_below Ot_128a.out bt_252)
                                      replace Ot_137a := Lib.hid (own_below Ot_137a.out bt_252)
                                      replace Ot_201 := Lib.hid (own_below Ot_201.out bt_252)
                                      replace Ot_204a := Lib.hid (own_below Ot_204a.out bt_252)
                                      replace Ot_211a := Lib.hid (own_below Ot_211a.out bt_252)
                                      replace Ot_228a := Lib.hid (own_below Ot_228a.out bt_252)
                                      clear bt_252
                                      replace H := let_hid H
                                      obtain ⟨t_260, ht_260, H⟩ := H
                                      replace H := join_hid H
                                      cases t_260 with
                                      | false =>
                                        replace H := ite_f H
                                        replace H := let_hid H
                                        obtain ⟨t_264, ht_264, H⟩ := H
                                        replace H := app_hid H
                                        cases t_264 with
                                        | false =>
                                          replace H := ite_f H
                                          cases t_242b with
                                          | false =>
                                            obtain rfl : t_252b = false := by revert ht_264; cases t_252b <;> simp
                                            replace H := ite_f H
                                            obtain rfl := ret_hid H
                                            go_wp2_with fail
                                            go_ret
                                            exact ⟨rfl, HBwt_252.out⟩
                                          | true =>
                                            obtain rfl : t_252b = true := by revert ht_264; cases t_252b <;> simp
                                            replace H := ite_t H
                                            replace H := bind2_hid H
                                            obtain ⟨t_272a, t_272b, qt_272, H⟩ := H
                                            go_wp2_with fail
                                            go_at_call 66
                                            refine (Go.Proofs.Ytlljmgphgmklcaa.GiRateFor.C (t_228a) (t_228b) (t_228c) (t_242a) At_228a ct_228a _   (Lib.hid (own_cells Ot_228a.out)) (Lib.hid (own_max Ot_228a.out)) qt_272).mono ?_
                                            rintro e_t_272 wt_272 ⟨rfl, bt_272⟩
                                            have HBwt_272 := Lib.hid (Below.step HBwt_252.out bt_272)
                                            replace Ot_5a := Lib.hid (own_below Ot_5a.out bt_272)
                                            replace Ot_22a := Lib.hid (own_below Ot_22a.out bt_272)
                                            replace Ot_33a := Lib.hid (own_below Ot_33a.out bt_272)
                                            replace Ot_117a := Lib.hid (own_below Ot_117a.out bt_272)
                                            replace Ot_128a := Lib.hid (own_below Ot_128a.out bt_272)
                                            replace Ot_137a := Lib.hid (own_below Ot_137a.out bt_272)
                                            replace Ot_201 := Lib.hid (own_below Ot_201.out bt_272)
                                            replace Ot_204a := Lib.hid (own_below Ot_204a.out bt_272)
                                            replace Ot_211a := Lib.hid (own_below Ot_211a.out bt_272)
                                            replace Ot_228a := Lib.hid (own_below Ot_228a.out bt_272)
                                            clear bt_272
                                            replace H := join_hid H
                                            cases t_272b with
                                            | false =>
                                              replace H := ite_f H
                                              replace H := app_hid H
                                              obtain rfl := ret_hid H
                                              go_wp2_with fail
                                              go_ret
                                              exact ⟨rfl, HBwt_272.out⟩
                                            | true =>
                                              replace H := ite_t H
                                              replace H := let_hid H
                                              obtain ⟨t_282, ht_282, H⟩ := H
                                              replace H := app_hid H
                                              obtain rfl := ret_hid H
                                              go_wp2_with fail
                                              go_ret
                                              exact ⟨rfl, HBwt_272.out⟩
                                        | true =>
                                          replace H := ite_t H
                                          obtain rfl := ret_hid H
                                          go_wp2_with fail
                                          go_ret
                                          exact ⟨rfl, HBwt_252.out⟩
                                      | true =>
                                        replace H := ite_t H
                                        replace H := app_hid H
                                        replace H := ite_t H
                                        obtain rfl := ret_hid H
                                        go_wp2_with fail
                                        go_ret
                                        exact ⟨rfl, HBwt_252.out⟩
                                  | true =>
                                    replace H := ite_t H
                                    replace H := app_hid H
                                    replace H := ite_t H
                                    obtain rfl := ret_hid H
                                    go_wp2_with fail
                                    go_ret
                                    exact ⟨rfl, HBwt_211.out⟩
                                | true =>
                                  replace H := ite_t H
                                  replace H := let_hid H
                                  obtain ⟨t_162, ht_162, H⟩ := H
                                  replace H := idx_hid H
                                  obtain ⟨nt_163, yt_163, et_163, lt_163, gt_163, H⟩ := H
                                  subst et_163
                                  obtain ⟨qt_163, Qt_163⟩ := own_some Ot_128a.out (by omega)
                                  subst Qt_163
                                  obtain ⟨ab_t_163, ao_t_163, zt_163, At_163, z_t_163, ct_163_0⟩ := Go.Proofs.Ytlljmgphgmklcaa.HelpInt.Ints.at_ (own_cells Ot_128a.out) (k := nt_163) (by omega)
                                  obtain rfl := Option.some.inj (gt_163.out.symm.trans z_t_163)
                                  simp only [Option.some.injEq, Addr.mk.injEq] at At_163
                                  obtain ⟨rfl, rfl, _⟩ := At_163
                                  clear z_t_163
                                  simp only [Nat.zero_add] at ct_163_0
                                  have b0t_163 : (0 : Int) ≤ (nt_163 : Int) := by omega
                                  have b1t_163 : (nt_163 : Int) < ((t_128a.length : Nat) : Int) := by omega
                                  have b2t_163 : ((nt_163 : Int)).toNat = nt_163 := by omega
                                  replace H := bind2_hid H
                                  obtain ⟨t_166a, t_166b, qt_166, H⟩ := H
                                  go_wp2_with fail
                                  go_at_call 66
                                  refine (Go.Proofs.Ytlljmgphgmklcaa.GiRateFor.C (t_117a) (t_117b) (yt_163) (t_117c) At_117a ct_117a _   (Lib.hid (own_cells Ot_117a.out)) (Lib.hid (own_max Ot_117a.out)) qt_166).mono ?_
                                  rintro e_t_166 wt_166 ⟨rfl, bt_166⟩
                                  have HBwt_166 := Lib.hid (Below.step HBwr0.out bt_166)
                                  replace ct_163_0 := cell_below bt_166 ct_163_0
                                  replace Ot_5a := Lib.hid (own_below Ot_5a.out bt_166)
                                  replace Ot_22a := Lib.hid (own_below Ot_22a.out bt_166)
                                  replace Ot_33a := Lib.hid (own_below Ot_33a.out bt_166)
                                  replace Ot_117a := Lib.hid (own_below Ot_117a.out bt_166)
                                  replace Ot_128a := Lib.hid (own_below Ot_128a.out bt_166)
                                  replace Ot_137a := Lib.hid (own_below Ot_137a.out bt_166)
                                  clear bt_166
                                  replace H := idx_hid H
                                  obtain ⟨nt_176, yt_176, et_176, lt_176, gt_176, H⟩ := H
                                  subst et_176
                                  have nc_1693 : nt_176 < t_128a.length := by have := of_decide_eq_true ht_157; omega
                                  obtain ⟨ab_t_176, ao_t_176, zt_176, At_176, z_t_176, ct_176_0⟩ := Go.Proofs.Ytlljmgphgmklcaa.HelpInt.Ints.at_ (own_cells Ot_128a.out) (k := nt_176) (by omega)
                                  obtain rfl := Option.some.inj (gt_176.out.symm.trans z_t_176)
                                  simp only [Option.some.injEq, Addr.mk.injEq] at At_176
                                  obtain ⟨rfl, rfl, _⟩ := At_176
                                  clear z_t_176
                                  simp only [Nat.zero_add] at ct_176_0
                                  have b0t_176 : (0 : Int) ≤ (nt_176 : Int) := by omega
                                  have b1t_176 : (nt_176 : Int) < ((t_128a.length : Nat) : Int) := by omega
                                  have b2t_176 : ((nt_176 : Int)).toNat = nt_176 := by omega
                                  replace H := bind2_hid H
                                  obtain ⟨t_179a, t_179b, qt_179, H⟩ := H
                                  go_wp2_with fail
                                  go_at_call 66
                                  refine (Go.Proofs.Ytlljmgphgmklcaa.GiRateFor.C (t_117a) (t_117b) (yt_176) (t_117c) At_117a ct_117a _   (Lib.hid (own_cells Ot_117a.out)) (Lib.hid (own_max Ot_117a.out)) qt_179).mono ?_
                                  rintro e_t_179 wt_179 ⟨rfl, bt_179⟩
                                  have HBwt_179 := Lib.hid (Below.step HBwt_166.out bt_179)
                                  replace ct_163_0 := cell_below bt_179 ct_163_0
                                  replace ct_176_0 := cell_below bt_179 ct_176_0
                                  replace Ot_5a := Lib.hid (own_below Ot_5a.out bt_179)
                                  replace Ot_22a := Lib.hid (own_below Ot_22a.out bt_179)
                                  replace Ot_33a := Lib.hid (own_below Ot_33a.out bt_179)
                                  replace Ot_117a := Lib.hid (own_below Ot_117a.out bt_179)
                                  replace Ot_128a := Lib.hid (own_below Ot_128a.out bt_179)
                                  replace Ot_137a := Lib.hid (own_below Ot_137a.out bt_179)
                                  clear bt_179
                                  cases t_166b with
                                  | false =>
                                    replace H := let_hid H
                                    obtain ⟨t_186, ht_186, H⟩ := H
                                    obtain rfl : t_186 = true := ht_186.symm
                                    replace H := join_hid H
                                    replace H := ite_t H
                                    replace H := app_hid H
                                    replace H := join_hid H
                                    replace H := ite_t H
                                    replace H := app_hid H
                                    replace H := ite_t H
                                    obtain rfl := ret_hid H
                                    go_wp2_with fail
                                    go_ret
                                    exact ⟨rfl, HBwt_179.out⟩
                                  | true =>
                                    replace H := let_hid H
                                    obtain ⟨t_186, ht_186, H⟩ := H
                                    obtain rfl : t_186 = false := ht_186.symm
                                    replace H := join_hid H
                                    replace H := ite_f H
                                    cases t_179b with
                                    | false =>
                                      replace H := let_hid H
                                      obtain ⟨t_189, ht_189, H⟩ := H
                                      obtain rfl : t_189 = true := ht_189.symm
                                      replace H := app_hid H
                                      replace H := join_hid H
                                      replace H := ite_t H
                                      replace H := app_hid H
                                      replace H := ite_t H
                                      obtain rfl := ret_hid H
                                      go_wp2_with fail
                                      go_ret
                                      exact ⟨rfl, HBwt_179.out⟩
                                    | true =>
                                      replace H := let_hid H
                                      obtain ⟨t_189, ht_189, H⟩ := H
                                      obtain rfl : t_189 = false := ht_189.symm
                                      replace H := app_hid H
                                      replace H := join_hid H
                                      replace H := ite_f H
                                      replace H := let_hid H
                                      obtain ⟨t_194, ht_194, H⟩ := H
                                      replace H := app_hid H
                                      cases t_194 with
                                      | false =>
                                        replace H := ite_f H
                                        replace H := let_hid H
                                        obtain ⟨t_198, ht_198, H⟩ := H
                                        replace H := app_hid H
                                        go_wp2_with fail
                                        go_roundg m0
                                        case measure => omega
                                        case rel => exact ⟨_, rfl, H, HBwt_179, Ot_5a, Ot_22a, Ot_33a, Ot_117a, Ot_128a, Ot_137a⟩
                                      | true =>
                                        replace H := ite_t H
                                        obtain rfl := ret_hid H
                                        go_wp2_with fail
                                        go_ret
                                        exact ⟨rfl, HBwt_179.out⟩
                        | true =>
                          replace H := ite_t H
                          replace H := app_hid H
                          replace H := ite_t H
                          obtain rfl := ret_hid H
                          go_wp2_with fail
                          go_ret
                          exact ⟨rfl, HBwt_137.out⟩
                    | true =>
                      replace H := ite_t H
                      replace H := app_hid H
                      replace H := ite_t H
                      obtain rfl := ret_hid H
                      go_wp2_with fail
                      go_ret
                      exact ⟨rfl, HBwt_76.out⟩
                  | true =>
                    replace H := ite_t H
                    replace H := app_hid H
                    replace H := join_hid H
                    replace H := ite_t H
                    replace H := app_hid H
                    replace H := ite_t H
                    obtain rfl := ret_hid H
                    go_wp2_with fail
                    go_ret
                    exact ⟨rfl, HBwt_76.out⟩
                | true =>
                  replace H := ite_t H
                  replace H := app_hid H
                  replace H := join_hid H
                  replace H := ite_t H
                  replace H := app_hid H
                  replace H := join_hid H
                  replace H := ite_t H
                  replace H := app_hid H
                  replace H := ite_t H
                  obtain rfl := ret_hid H
                  go_wp2_with fail
                  go_ret
                  exact ⟨rfl, HBwt_76.out⟩
    | true =>
      replace H := ite_t H
      replace H := app_hid H
      replace H := ite_t H
      obtain rfl := ret_hid H
      go_wp2_with fail
      go_ret
      exact ⟨rfl, HBwt_33.out⟩
  | true =>
    replace H := ite_t H
    obtain rfl := ret_hid H
    go_wp2_with fail
    go_ret
    exact ⟨rfl, HBwt_2.out⟩
end Go.Proofs.Ytlljmgphgmklcaa.GlFnRaises

