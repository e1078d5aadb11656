/- Texts on which the proofs of several laws stand, one behind the other (18 of 18). No condition of their own. -/
import Derived.Test.YtgimcnpkngpmiaaChecked
import Derived.Test.YtgimcnpkngpmiaaX11P1
import Derived.Test.YtgimcnpkngpmiaaX11P2
import Derived.Test.YtgimcnpkngpmiaaX11P4
import Derived.Test.YtgimcnpkngpmiaaX11P5
import Derived.Test.YtgimcnpkngpmiaaX11P7
import Derived.WalkKit
import Derived.WalkSpells
import Derived.WalkLawsBesides
import Derived.BigQuiet
import Derived.OwnWalk
import Derived.Deep.LoopGhost
import Derived.Deep.QuietTactic
import Derived.IntWalk
import Derived.Lib.QuietBelow
import Derived.Shelf.SlSortCmp.SmallK
import Derived.Ground.SlsfProg
import Derived.Test.YtgimcnpkngpmiaaProg
import Derived.Test.YtgimcnpkngpmiaaX11P9
import Derived.Test.YtgimcnpkngpmiaaX11P6
import Derived.Test.YtgimcnpkngpmiaaX11P3
/- loop.example/g01062/spec.GapBetween as a plain function, and the contract of the program's: where the plain one has an answer, the program has it. Conditions: slices read as lists. -/
namespace Go.Proofs.Ytgimcnpkngpmiaa.GsGapBetween
set_option linter.unusedVariables false
set_option linter.unusedSimpArgs false
open Go.RowKit
open Go.Proofs.Ytgimcnpkngpmiaa.Rowed Go.Proofs.Ytgimcnpkngpmiaa.Turn Go.Proofs.Ytgimcnpkngpmiaa.Aid Go.Proofs.Ytgimcnpkngpmiaa.GoP Go.Proofs.Ytgimcnpkngpmiaa.GoM

def l0 (list : (List Go.Proofs.Ytgimcnpkngpmiaa.PPostmark.Postmark)) (town : ByteArray) (k0 : Nat) (s : Int × Int) (nx0 bk0 : Int × Int → Option (Int × Bool)) : Option (Int × Bool) :=
  unp2 s fun first_6l0 last_7l0 =>
  Option.bind (idx list (k0 : Int)) fun (yt_21 : Go.Proofs.Ytgimcnpkngpmiaa.PPostmark.Postmark) =>
  unPostmark yt_21 fun (t_21_id : Int) (t_21_town : ByteArray) (t_21_kind_ : Int) (t_21_first : Int) (t_21_last : Int) (t_21_lost : ByteArray) =>
  letK (t_21_town.toList == town.toList) fun (t_25 : Bool) =>
  iteK t_25
  (Option.bind (idx list (k0 : Int)) fun (yt_29 : Go.Proofs.Ytgimcnpkngpmiaa.PPostmark.Postmark) =>
  unPostmark yt_29 fun (t_29_id : Int) (t_29_town : ByteArray) (t_29_kind_ : Int) (t_29_first : Int) (t_29_last : Int) (t_29_lost : ByteArray) =>
  Option.bind (Go.Proofs.Ytgimcnpkngpmiaa.GsL1Least.P first_6l0 t_29_first) fun (t_32 : Int) =>
  Option.bind (idx list (k0 : Int)) fun (yt_37 : Go.Proofs.Ytgimcnpkngpmiaa.PPostmark.Postmark) =>
  unPostmark yt_37 fun (t_37_id : Int) (t_37_town : ByteArray) (t_37_kind_ : Int) (t_37_first : Int) (t_37_last : Int) (t_37_lost : ByteArray) =>
  Option.bind (Go.Proofs.Ytgimcnpkngpmiaa.GsL1Most.P last_7l0 t_37_last) fun (t_40 : Int) =>
  appK nx0 (t_32, t_40))
  (appK nx0 (first_6l0, last_7l0))

def l2 (list : (List Go.Proofs.Ytgimcnpkngpmiaa.PPostmark.Postmark)) (town : ByteArray) (day_10l1 : Int) (k2 : Nat) (s : Bool) (nx2 bk2 : Bool → Option (Int × Bool)) : Option (Int × Bool) :=
  letK s fun some_11l2 =>
  joinK (fun (t_78 : Bool) =>
  appK nx2 (t_78)) fun jt_78 => iteK some_11l2 (appK jt_78 true) (Option.bind (idx list (k2 : Int)) fun (yt_65 : Go.Proofs.Ytgimcnpkngpmiaa.PPostmark.Postmark) =>
  unPostmark yt_65 fun (t_65_id : Int) (t_65_town : ByteArray) (t_65_kind_ : Int) (t_65_first : Int) (t_65_last : Int) (t_65_lost : ByteArray) =>
  letK (t_65_town.toList == town.toList) fun (t_69 : Bool) =>
  joinK (fun (t_77 : Bool) =>
  appK jt_78 t_77) fun jt_77 => iteK t_69 (Option.bind (idx list (k2 : Int)) fun (yt_73 : Go.Proofs.Ytgimcnpkngpmiaa.PPostmark.Postmark) =>
  unPostmark yt_73 fun (t_73_id : Int) (t_73_town : ByteArray) (t_73_kind_ : Int) (t_73_first : Int) (t_73_last : Int) (t_73_lost : ByteArray) =>
  Option.bind (Go.Proofs.Ytgimcnpkngpmiaa.GsL11Used.P (Go.Proofs.Ytgimcnpkngpmiaa.PPostmark.Postmark.mk t_73_id t_73_town t_73_kind_ t_73_first t_73_last t_73_lost) day_10l1) fun (t_76 : Bool) =>
  appK jt_77 t_76) (appK jt_77 false))

def e2 (nx1 : (Int × Int) → Option (Int × Bool)) (gap_9l1 : Int) (day_10l1 : Int) (s : Bool) : Option (Int × Bool) :=
  letK s fun some_11l2 =>
  letK (!some_11l2) fun (t_84 : Bool) =>
  iteK t_84
  (letK (IntKind.i64.wrap (gap_9l1 + 1)) fun (t_86 : Int) =>
  letK (IntKind.i64.wrap (day_10l1 + 1)) fun (t_89 : Int) =>
  appK nx1 (t_86, t_89))
  (letK (IntKind.i64.wrap (day_10l1 + 1)) fun (t_89 : Int) =>
  appK nx1 (gap_9l1, t_89))

def l1 (list : (List Go.Proofs.Ytgimcnpkngpmiaa.PPostmark.Postmark)) (town : ByteArray) (last_7l0 : Int) (s : Int × Int) (nx1 bk1 : Int × Int → Option (Int × Bool)) : Option (Int × Bool) :=
  unp2 s fun gap_9l1 day_10l1 =>
  letK (decide (day_10l1 ≤ last_7l0)) fun (t_54 : Bool) =>
  iteK t_54
  (cntK (l2 list town day_10l1) (list.length) 0 (false) (e2 nx1 gap_9l1 day_10l1))
  (appK bk1 (gap_9l1, day_10l1))

def e1  (s : Int × Int) : Option (Int × Bool) :=
  unp2 s fun gap_9l1 day_10l1 =>
  some (gap_9l1, true)

def e0 (list : (List Go.Proofs.Ytgimcnpkngpmiaa.PPostmark.Postmark)) (town : ByteArray) (fuel : Nat) (s : Int × Int) : Option (Int × Bool) :=
  unp2 s fun first_6l0 last_7l0 =>
  letK (decide (last_7l0 < 0)) fun (t_46 : Bool) =>
  iteK t_46
  (some (0, false))
  (loopK (l1 list town last_7l0) fuel (0, first_6l0) (e1 ))

def P (fuel : Nat) (list : (List Go.Proofs.Ytgimcnpkngpmiaa.PPostmark.Postmark)) (town : ByteArray) : Option (Int × Bool) :=
  Option.bind (Go.Proofs.Ytgimcnpkngpmiaa.GsL11Good.P fuel list) fun (t_3 : Bool) =>
  letK (!t_3) fun (t_4 : Bool) =>
  joinK (fun (t_9 : Bool) =>
  iteK t_9
  (some (0, false))
  (cntK (l0 list town) (list.length) 0 (4000, (-1)) (e0 list town fuel))) fun jt_9 => iteK t_4 (appK jt_9 true) (Option.bind (Go.Proofs.Ytgimcnpkngpmiaa.GsL2Word.P town) fun (t_7 : Bool) =>
  letK (!t_7) fun (t_8 : Bool) =>
  appK jt_9 t_8)

set_option maxRecDepth 100000 in
set_option maxHeartbeats 2000000 in
theorem C (fuel : Nat) (list : (List Go.Proofs.Ytgimcnpkngpmiaa.PPostmark.Postmark)) (town : ByteArray) (A0 : Option Addr) (c0 : Nat)  (w : World) (M0 : Hid (Cells w 6 A0 list.length (Go.Proofs.Ytgimcnpkngpmiaa.PPostmark.flat list))) (N0 : Hid (list.length ≤ 9223372036854775807))  {r0 : Int} {r1 : Bool} (H : Hid (P fuel list town = some (r0, r1))) :
    Calls Try.prog 38 #[.slice A0 list.length c0, .string town] w (Gives (.tuple #[.int .i64 r0, .bool r1]) w) := by
  have HB := Lib.hid (Below.refl w.heap.size w)
  unfold P at H
  have N0o := N0.out
  go_enter Try.func38, Try.ntmps38
  replace H := bind_hid H
  obtain ⟨t_3, qt_3, H⟩ := H
  go_wp2_with fail
  go_at_call 45
  refine (Go.Proofs.Ytgimcnpkngpmiaa.GsL11Good.C fuel (list) A0 c0 _   (Lib.hid (Cells.below M0.out HB.out)) N0 qt_3).mono ?_
  rintro e_t_3 wt_3 ⟨rfl, bt_3⟩
  have HBwt_3 := Lib.hid (Below.step HB.out bt_3)
  clear bt_3
  cases t_3 with
  | false =>
    replace H := let_hid H
    obtain ⟨t_4, ht_4, H⟩ := H
    obtain rfl : t_4 = true := ht_4.symm
    replace H := join_hid H
    replace H := ite_t H
    replace H := app_hid H
    replace H := ite_t H
    cases ret_hid H
    go_wp2_with fail
    go_ret2
    exact ⟨rfl, HBwt_3.out⟩
  | true =>
    replace H := let_hid H
    obtain ⟨t_4, ht_4, H⟩ := H
    obtain rfl : t_4 = false := ht_4.symm
    replace H := join_hid H
    replace H := ite_f H
    replace H := bind_hid H
    obtain ⟨t_7, qt_7, H⟩ := H
    go_wp2_with fail
    go_at_call 56
    refine (Go.Proofs.Ytgimcnpkngpmiaa.GsL2Word.C (town)  _    qt_7).mono ?_
    rintro e_t_7 wt_7 ⟨rfl, bt_7⟩
    have HBwt_7 := Lib.hid (Below.step HBwt_3.out bt_7)
    clear bt_7
    cases t_7 with
    | false =>
      replace H := let_hid H
      obtain ⟨t_8, ht_8, H⟩ := H
      obtain rfl : t_8 = true := ht_8.symm
      replace H := app_hid H
      replace H := ite_t H
      cases ret_hid H
      go_wp2_with fail
      go_ret2
      exact ⟨rfl, HBwt_7.out⟩
    | true =>
      replace H := let_hid H
      obtain ⟨t_8, ht_8, H⟩ := H
      obtain rfl : t_8 = false := ht_8.symm
      replace H := app_hid H
      replace H := ite_f H
      go_wp2_with fail
      go_loopg [8, 6, 7] (list.length) (fun m_ v8_ v6_ v7_ wr => ∃ (k0 : Nat) (first_6l0 : Int) (last_7l0 : Int), k0 + m_ = list.length ∧ v8_ = .int .i64 (k0 : Int) ∧ v6_ = .int .i64 first_6l0 ∧ v7_ = .int .i64 last_7l0 ∧ Hid (cntK (l0 list town) m_ k0 (first_6l0, last_7l0) (e0 list town fuel) = some (r0, r1)) ∧ Hid (Below w.heap.size w wr))
      case atStart => exact ⟨0, _, _, by omega, rfl, rfl, rfl, H, HBwt_7⟩
      case round =>
        obtain ⟨k0, first_6l0, last_7l0, hkm0, rfl, rfl, rfl, H, HBwr0⟩ := hrel
        rename World => wr0
        cases gk with
        | zero =>
          obtain rfl : k0 = list.length := by omega
          have hc0 : decide (((list.length : Nat) : Int) < ((list.length : Nat) : Int)) = false := by simp
          replace H := cnt_zero H
          unfold e0 at H
          replace H := unp2_hid H
          replace H := let_hid H
          obtain ⟨t_46, ht_46, H⟩ := H
          cases t_46 with
          | false =>
            replace H := ite_f H
            go_wp2_with fail
            go_loopg [9, 10] (fuel) (fun m_ v9_ v10_ wr => ∃ (gap_9l1 : Int) (day_10l1 : Int), v9_ = .int .i64 gap_9l1 ∧ v10_ = .int .i64 day_10l1 ∧ Hid (loopK (l1 list town last_7l0) m_ (gap_9l1, day_10l1) (e1 ) = some (r0, r1)) ∧ Hid (Below w.heap.size w wr))
            case atStart => exact ⟨_, _, rfl, rfl, H, HBwr0⟩
            case round =>
              obtain ⟨gap_9l1, day_10l1, rfl, rfl, H, HBwr1⟩ := hrel
              rename World => wr1
              cases gk with
              | zero => exact (loop_zero H).elim
              | succ m1 =>
                replace H := loop_succ H
                unfold l1 at H
                replace H := unp2_hid H
                replace H := let_hid H
                obtain ⟨t_54, ht_54, H⟩ := H
                cases t_54 with
                | false =>
                  replace H := ite_f H
                  replace H := app_hid H
                  unfold e1 at H
                  replace H := unp2_hid H
                  cases ret_hid H
                  go_wp2_with fail
                  go_ret2
                  exact ⟨rfl, HBwr1.out⟩
                | true =>
                  replace H := ite_t H
                  go_wp2_with fail
                  go_loopg [12, 11] (list.length) (fun m_ v12_ v11_ wr => ∃ (k2 : Nat) (some_11l2 : Bool), k2 + m_ = list.length ∧ v12_ = .int .i64 (k2 : Int) ∧ v11_ = .bool some_11l2 ∧ Hid (cntK (l2 list town day_10l1) m_ k2 (some_11l2) (e2 (fun s' => loopK (l1 list town last_7l0) m1 s' (e1 )) gap_9l1 day_10l1) = some (r0, r1)) ∧ Hid (Below w.heap.size w wr))
                  case atStart => exact ⟨0, _, by omega, rfl, rfl, H, HBwr1⟩
                  case round =>
                    obtain ⟨k2, some_11l2, hkm2, rfl, rfl, H, HBwr2⟩ := hrel
                    rename World => wr2
                    cases gk with
                    | zero =>
                      obtain rfl : k2 = list.length := by omega
                      have hc2 : decide (((list.length : Nat) : Int) < ((list.length : Nat) : Int)) = false := by simp
                      replace H := cnt_zero H
                      unfold e2 at H
                      replace H := let_hid H
                      obtain ⟨_, rfl, H⟩ := H
                      cases some_11l2 with
                      | false =>
                        replace H := let_hid H
                        obtain ⟨t_84, ht_84, H⟩ := H
                        obtain rfl : t_84 = true := ht_84.symm
                        replace H := ite_t H
                        replace H := let_hid H
                        obtain ⟨t_86, ht_86, H⟩ := H
                        replace H := let_hid H
                        obtain ⟨t_89, ht_89, H⟩ := H
                        replace H := app_hid H
                        go_wp2_with fail
                        go_roundg m1
                        case measure => omega
                        case rel => exact ⟨_, _, rfl, rfl, H, HBwr2⟩
                      | true =>
                        replace H := let_hid H
                        obtain ⟨t_84, ht_84, H⟩ := H
                        obtain rfl : t_84 = false := ht_84.symm
                        replace H := ite_f H
                        replace H := let_hid H
                        obtain ⟨t_89, ht_89, H⟩ := H
                        replace H := app_hid H
                        go_wp2_with fail
                        go_roundg m1
                        case measure => omega
                        case rel => exact ⟨_, _, rfl, rfl, H, HBwr2⟩
                    | succ m2 =>
                      have hlt2 : k2 < list.length := by omega
                      have hc2 : decide ((k2 : Int) < ((list.length : Nat) : Int)) = true := by simp; omega
                      replace H := cnt_succ H
                      unfold l2 at H
                      replace H := let_hid H
                      obtain ⟨_, rfl, H⟩ := H
                      replace H := join_hid H
                      cases some_11l2 with
                      | false =>
                        replace H := ite_f H
                        replace H := idx_hid H
                        obtain ⟨nt_65, yt_65, et_65, lt_65, gt_65, H⟩ := H
                        obtain rfl : k2 = nt_65 := by omega
                        clear et_65
                        obtain ⟨t_65_id, t_65_town, t_65_kind_, t_65_first, t_65_last, t_65_lost⟩ := yt_65
                        replace H := unPostmark_hid H
                        obtain ⟨ab_t_65, ao_t_65, zt_65, At_65, z_t_65, ct_65_0, ct_65_1, ct_65_2, ct_65_3, ct_65_4, ct_65_5⟩ := Go.Proofs.Ytgimcnpkngpmiaa.OPostmark.at_ M0.out lt_65
                        obtain rfl := Option.some.inj (gt_65.out.symm.trans z_t_65)
                        subst At_65
                        have ltt_65 := cell_lt ct_65_0
                        replace ct_65_0 := cell_below HBwr2.out ct_65_0
                        replace ct_65_1 := cell_below HBwr2.out ct_65_1
                        replace ct_65_2 := cell_below HBwr2.out ct_65_2
                        replace ct_65_3 := cell_below HBwr2.out ct_65_3
                        replace ct_65_4 := cell_below HBwr2.out ct_65_4
                        replace ct_65_5 := cell_below HBwr2.out ct_65_5
                        clear z_t_65
                        have b0t_65 : (0 : Int) ≤ (k2 : Int) := by omega
                        have b1t_65 : (k2 : Int) < ((list.length : Nat) : Int) := by omega
                        have b2t_65 : ((k2 : Int)).toNat = k2 := by omega
                        replace H := let_hid H
                        obtain ⟨t_69, ht_69, H⟩ := H
                        replace H := join_hid H
                        cases t_69 with
                        | false =>
                          replace H := ite_f H
                          replace H := app_hid H
                          replace H := app_hid H
                          replace H := app_hid H
                          go_wp2_with fail
                          go_roundg m2
                          case measure => omega
                          case rel => exact ⟨k2 + 1, _, by omega, by go_num, rfl, H, HBwr2⟩
                        | true =>
                          replace H := ite_t H
                          replace H := idx_hid H
                          obtain ⟨nt_73, yt_73, et_73, lt_73, gt_73, H⟩ := H
                          obtain rfl : k2 = nt_73 := by omega
                          clear et_73
                          obtain rfl := Option.some.inj (gt_65.out.symm.trans gt_73.out)
                          clear gt_73 lt_73
                          replace H := unPostmark_hid H
                          replace H := bind_hid H
                          obtain ⟨t_76, qt_76, H⟩ := H
                          go_wp2_with fail
                          go_at_call 64
                          refine (Go.Proofs.Ytgimcnpkngpmiaa.GsL11Used.C ((Go.Proofs.Ytgimcnpkngpmiaa.PPostmark.Postmark.mk t_65_id t_65_town t_65_kind_ t_65_first t_65_last t_65_lost)) (day_10l1)  _    qt_76).mono ?_
                          rintro e_t_76 wt_76 ⟨rfl, bt_76⟩
                          have HBwt_76 := Lib.hid (Below.step HBwr2.out bt_76)
                          replace ct_65_0 := cell_below bt_76 ct_65_0
                          replace ct_65_1 := cell_below bt_76 ct_65_1
                          replace ct_65_2 := cell_below bt_76 ct_65_2
                          replace ct_65_3 := cell_below bt_76 ct_65_3
                          replace ct_65_4 := cell_below bt_76 ct_65_4
                          replace ct_65_5 := cell_below bt_76 ct_65_5
                          clear bt_76
                          replace H := app_hid H
                          replace H := app_hid H
                          replace H := app_hid H
                          go_wp2_with fail
                          go_roundg m2
                          case measure => omega
                          case rel => exact ⟨k2 + 1, _, by omega, by go_num, rfl, H, HBwt_76⟩
                      | true =>
                        replace H := ite_t H
                        replace H := app_hid H
                        replace H := app_hid H
                        go_wp2_with fail
                        go_roundg m2
                        case measure => omega
                        case rel => exact ⟨k2 + 1, _, by omega, by go_num, rfl, H, HBwr2⟩
          | true =>
            replace H := ite_t H
            cases ret_hid H
            go_wp2_with fail
            go_ret2
            exact ⟨rfl, HBwr0.out⟩
        | succ m0 =>
          have hlt0 : k0 < list.length := by omega
          have hc0 : decide ((k0 : Int) < ((list.length : Nat) : Int)) = true := by simp; omega
          replace H := cnt_succ H
          unfold l0 at H
          replace H := unp2_hid H
          replace H := idx_hid H
          obtain ⟨nt_21, yt_21, et_21, lt_21, gt_21, H⟩ := H
          obtain rfl : k0 = nt_21 := by omega
          clear et_21
          obtain ⟨t_21_id, t_21_town, t_21_kind_, t_21_first, t_21_last, t_21_lost⟩ := yt_21
          replace H := unPostmark_hid H
          obtain ⟨ab_t_21, ao_t_21, zt_21, At_21, z_t_21, ct_21_0, ct_21_1, ct_21_2, ct_21_3, ct_21_4, ct_21_5⟩ := Go.Proofs.Ytgimcnpkngpmiaa.OPostmark.at_ M0.out lt_21
          obtain rfl := Option.some.inj (gt_21.out.symm.trans z_t_21)
          subst At_21
          have ltt_21 := cell_lt ct_21_0
          replace ct_21_0 := cell_below HBwr0.out ct_21_0
          replace ct_21_1 := cell_below HBwr0.out ct_21_1
          replace ct_21_2 := cell_below HBwr0.out ct_21_2
          replace ct_21_3 := cell_below HBwr0.out ct_21_3
          replace ct_21_4 := cell_below HBwr0.out ct_21_4
          replace ct_21_5 := cell_below HBwr0.out ct_21_5
          clear z_t_21
          have b0t_21 : (0 : Int) ≤ (k0 : Int) := by omega
          have b1t_21 : (k0 : Int) < ((list.length : Nat) : Int) := by omega
          have b2t_21 : ((k0 : Int)).toNat = k0 := by omega
          replace H := let_hid H
          obtain ⟨t_25, ht_25, H⟩ := H
          cases t_25 with
          | false =>
            replace H := ite_f H
            replace H := app_hid H
            go_wp2_with fail
            go_roundg m0
            case measure => omega
            case rel => exact ⟨k0 + 1, _, _, by omega, by go_num, rfl, rfl, H, HBwr0⟩
          | true =>
            replace H := ite_t H
            replace H := idx_hid H
            obtain ⟨nt_29, yt_29, et_29, lt_29, gt_29, H⟩ := H
            obtain rfl : k0 = nt_29 := by omega
            clear et_29
            obtain rfl := Option.some.inj (gt_21.out.symm.trans gt_29.out)
            clear gt_29 lt_29
            replace H := unPostmark_hid H
            replace H := bind_hid H
            obtain ⟨t_32, qt_32, H⟩ := H
            go_wp2_with fail
            go_at_call 63
            refine (Go.Proofs.Ytgimcnpkngpmiaa.GsL1Least.C (first_6l0) (t_21_first)  _    qt_32).mono ?_
            rintro e_t_32 wt_32 ⟨rfl, bt_32⟩
            have HBwt_32 := Lib.hid (Below.step HBwr0.out bt_32)
            replace ct_21_0 := cell_below bt_32 ct_21_0
            replace ct_21_1 := cell_below bt_32 ct_21_1
            replace ct_21_2 := cell_below bt_32 ct_21_2
            replace ct_21_3 := cell_below bt_32 ct_21_3
            replace ct_21_4 := cell_below bt_32 ct_21_4
            replace ct_21_5 := cell_below bt_32 ct_21_5
            clear bt_32
            replace H := idx_hid H
            obtain ⟨nt_37, yt_37, et_37, lt_37, gt_37, H⟩ := H
            obtain rfl : k0 = nt_37 := by omega
            clear et_37
            obtain rfl := Option.some.inj (gt_21.out.symm.trans gt_37.out)
            clear gt_37 lt_37
            replace H := unPostmark_hid H
            replace H := bind_hid H
            obtain ⟨t_40, qt_40, H⟩ := H
            go_wp2_with fail
            go_at_call 62
            refine (Go.Proofs.Ytgimcnpkngpmiaa.GsL1Most.C (last_7l0) (t_21_last)  _    qt_40).mono ?_
            rintro e_t_40 wt_40 ⟨rfl, bt_40⟩
            have HBwt_40 := Lib.hid (Below.step HBwt_32.out bt_40)
            replace ct_21_0 := cell_below bt_40 ct_21_0
            replace ct_21_1 := cell_below bt_40 ct_21_1
            replace ct_21_2 := cell_below bt_40 ct_21_2
            replace ct_21_3 := cell_below bt_40 ct_21_3
            replace ct_21_4 := cell_below bt_40 ct_21_4
            replace ct_21_5 := cell_below bt_40 ct_21_5
            clear bt_40
            replace H := app_hid H
            go_wp2_with fail
            go_roundg m0
            case measure => omega
            case rel => exact ⟨k0 + 1, _, _, by omega, by go_num, rfl, rfl, H, HBwt_40⟩
end Go.Proofs.Ytgimcnpkngpmiaa.GsGapBetween

/-
  The contract of a library function that this program calls (slices.SortFunc at records), laid at its own numbers by the shelf of the guide. No condition of its own: it states its premises.
-/
namespace Go.Proofs
open Go.Shelf
def Try.sortPm_ren : Go.Shelf.Ren := ⟨fun | 6 => 73 | 15 => 83 | 14 => 84 | 28 => 97 | 29 => 98 | 20 => 99 | 21 => 100 | 22 => 101 | 23 => 102 | 24 => 103 | 25 => 104 | 26 => 105 | 27 => 106 | 46 => 114 | 47 => 109 | 48 => 110 | 49 => 115 | 50 => 116 | 57 => 122 | n => n, fun | 22 => 32 | 24 => 26 | 25 => 71 | 3 => 3 | 39 => 83 | 0 => 0 | 53 => 95 | 55 => 97 | 4 => 4 | 46 => 89 | 45 => 88 | 50 => 55 | 5 => 5 | 9 => 9 | 66 => 103 | 70 => 107 | 76 => 112 | 77 => 113 | n => n, fun | n => n⟩
theorem Try.sortPm : Go.Proofs.SlLaysF0.n6 Try.prog Try.sortPm_ren := {
  mixed := by kernel_rfl
  f6 := ⟨Try.f73.name, by decide, Try.func73.trans (congrArg some (by kernel_rfl))⟩
  f14 := ⟨Try.f84.name, by decide, Try.func84.trans (congrArg some (by kernel_rfl))⟩
  f15 := Try.func83.trans (congrArg some (by kernel_rfl))
  f20 := ⟨Try.f99.name, by decide, Try.func99.trans (congrArg some (by kernel_rfl))⟩
  f21 := ⟨Try.f100.name, by decide, Try.func100.trans (congrArg some (by kernel_rfl))⟩
  f22 := ⟨Try.f101.name, by decide, Try.func101.trans (congrArg some (by kernel_rfl))⟩
  f23 := ⟨Try.f102.name, by decide, Try.func102.trans (congrArg some (by kernel_rfl))⟩
  f24 := ⟨Try.f103.name, by decide, Try.func103.trans (congrArg some (by kernel_rfl))⟩
  f25 := ⟨Try.f104.name, by decide, Try.func104.trans (congrArg some (by kernel_rfl))⟩
  f26 := ⟨Try.f105.name, by decide, Try.func105.trans (congrArg some (by kernel_rfl))⟩
  f27 := ⟨Try.f106.name, by decide, Try.func106.trans (congrArg some (by kernel_rfl))⟩
  f28 := Try.func97.trans (congrArg some (by kernel_rfl))
  f29 := Try.func98.trans (congrArg some (by kernel_rfl))
  f46 := ⟨Try.f114.name, by decide, Try.func114.trans (congrArg some (by kernel_rfl))⟩
  f47 := Try.func109.trans (congrArg some (by kernel_rfl))
  f48 := Try.func110.trans (congrArg some (by kernel_rfl))
  f49 := ⟨Try.f115.name, by decide, Try.func115.trans (congrArg some (by kernel_rfl))⟩
  f50 := ⟨Try.f116.name, by decide, Try.func116.trans (congrArg some (by kernel_rfl))⟩
  f57 := ⟨Try.f122.name, by decide, Try.func122.trans (congrArg some (by kernel_rfl))⟩
  t0 := Try.underlying0
  a0 := Try.isAgg0
  z0 := Try.sizeOf0
  v0 := Try.zeroValue0
  t3 := Try.underlying3
  a3 := Try.isAgg3
  z3 := Try.sizeOf3
  v3 := Try.zeroValue3
  t4 := Try.underlying4
  a4 := Try.isAgg4
  z4 := Try.sizeOf4
  v4 := Try.zeroValue4
  t5 := Try.underlying5
  a5 := Try.isAgg5
  z5 := Try.sizeOf5
  v5 := Try.zeroValue5
  t9 := Try.underlying9
  a9 := Try.isAgg9
  z9 := Try.sizeOf9
  v9 := Try.zeroValue9
  t22 := Try.underlying32
  a22 := Try.isAgg32
  z22 := Try.sizeOf32
  v22 := Try.zeroValue32
  t25 := Try.underlying71
  a25 := Try.isAgg71
  z25 := Try.sizeOf71
  v25 := Try.zeroValue71
  t39 := Try.underlying83
  a39 := Try.isAgg83
  z39 := Try.sizeOf83
  v39 := Try.zeroValue83
  t45 := Try.underlying88
  a45 := Try.isAgg88
  z45 := Try.sizeOf88
  v45 := Try.zeroValue88
  t46 := Try.underlying89
  a46 := Try.isAgg89
  z46 := Try.sizeOf89
  v46 := Try.zeroValue89
  t50 := Try.underlying55
  a50 := Try.isAgg55
  z50 := Try.sizeOf55
  v50 := Try.zeroValue55
  t53 := Try.underlying95
  a53 := Try.isAgg95
  z53 := Try.sizeOf95
  v53 := Try.zeroValue95
  t55 := Try.underlying97
  a55 := Try.isAgg97
  z55 := Try.sizeOf97
  v55 := Try.zeroValue97
  t66 := Try.underlying103
  a66 := Try.isAgg103
  z66 := Try.sizeOf103
  v66 := Try.zeroValue103
  t70 := Try.underlying107
  a70 := Try.isAgg107
  z70 := Try.sizeOf107
  v70 := Try.zeroValue107
  t76 := Try.underlying112
  a76 := Try.isAgg112
  z76 := Try.sizeOf112
  v76 := Try.zeroValue112
  t77 := Try.underlying113
  a77 := Try.isAgg113
  z77 := Try.sizeOf113
  v77 := Try.zeroValue113 }
end Go.Proofs

/- slices.SortFunc of postmarks by their first days as a plain function; the contract of the program's (at 12 elements or fewer). No condition. -/
namespace Go.Proofs.Ytgimcnpkngpmiaa.GxSlicesSortFuncLoopExampleG01062ImplPostmarkLoopExampleG01062ImplPostmarkiGapBetween1
set_option linter.unusedVariables false
open Go.RowKit Go.Sort
open Go.Proofs.Ytgimcnpkngpmiaa.Turn Go.Proofs.Ytgimcnpkngpmiaa.GoM Go.Proofs.Ytgimcnpkngpmiaa.PPostmark
instance : Inhabited Postmark := ⟨zero⟩
def cf (x y : Postmark) : Int := Lib.compareInt x.first y.first
def sortF (l : List Postmark) : List Postmark := (Sort.insertionSort (ltOf cf) l.toArray 0 l.toArray.size).toList
def P (x_0 : List Postmark) : Option (List Postmark) := if 0 < x_0.length ∧ x_0.length ≤ 12 then some (sortF x_0) else none
theorem lt_iff (x y : Postmark) : ltOf cf x y = decide (x.first < y.first) := by
  unfold ltOf cf Lib.compareInt
  by_cases h : x.first < y.first
  · simp [h]
  · by_cases h2 : y.first < x.first <;> simp [h, h2]
theorem swo : SWO (ltOf cf) where
  irrefl := by intro x; rw [lt_iff]; simp
  trans := by intro x y z; rw [lt_iff, lt_iff, lt_iff]; simp only [decide_eq_true_eq]; omega
  ntrans := by intro x y z; rw [lt_iff, lt_iff, lt_iff]; simp only [decide_eq_false_iff_not]; omega
theorem closure (x y : Postmark) (W : World) : Calls Try.prog 74 #[.agg x.cells.toArray, .agg y.cells.toArray] W fun e w' => e = .returned (.int .i64 (cf x y)) ∧ ∃ q os', w' = Sort.grow (W.drewN q) os' := by
  have hcon := fun W' => Try.cmp_Compare_int x.first y.first W'
  unfold cf
  generalize Lib.compareInt x.first y.first = r at hcon ⊢
  obtain ⟨a0, a1, a2, a3, a4, a5⟩ := x
  obtain ⟨b0, b1, b2, b3, b4, b5⟩ := y
  unfold Postmark.cells
  dsimp only at hcon ⊢
  go_enter Try.func74, Try.ntmps74
  go_wp2_with (go_at_call 60; refine (hcon _).mono ?_; rintro e w' ⟨rfl, rfl⟩)
  go_ret
  exact ⟨rfl, 0, _, by rw [alloc_eq_grow, alloc_eq_grow, grow_grow]; rfl⟩
theorem flat_eq (l : List Postmark) : flatK Postmark.cells 6 l.toArray = (flat l).toArray := by
  apply Array.ext
  · simp [flat_len]
  · intro t h1 h2
    have h3 : t < l.length * 6 := by simpa using h1
    have hk : t / 6 < l.length := by omega
    have hx : l[t / 6]? = some l[t / 6] := List.getElem?_eq_getElem hk
    have h4 := flat_at l (t / 6) l[t / 6] hx (t % 6) (by omega)
    rw [show t / 6 * 6 + t % 6 = t by omega] at h4
    have e1 := get_flatK Postmark.cells 6 l.toArray t (by simpa using h3)
    rw [getElem!_pos (flatK Postmark.cells 6 l.toArray) t h1] at e1
    rw [e1]
    have e2 : l.toArray[t / 6]! = l[t / 6] := by rw [getElem!_pos l.toArray (t / 6) (by simpa using hk)]; simp
    rw [e2]
    have h5 : (flat l)[t]? = some ((flat l)[t]'(by rw [flat_len]; omega)) := List.getElem?_eq_getElem _
    rw [h5] at h4
    have h6 : t % 6 < l[t / 6].cells.length := by simp [Postmark.cells]; omega
    rw [List.getElem?_eq_getElem h6] at h4
    rw [getElem!_pos l[t / 6].cells (t % 6) h6]
    simpa using (Option.some.inj h4).symm
theorem own_holdsV {b T n c g K : Nat} {w : World} {xs : List Value} (h : w.ownsRow b T K (.slice (some ⟨g, 0, none⟩) n c) n xs) : Sort.Holds id w g 0 xs.toArray := by
  intro j hj
  have hj' : j < xs.length := by simpa using hj
  refine ⟨?_, h.frozenAt _⟩
  obtain ⟨ad, ea, hc⟩ := (own_cells h).2 (by omega)
  obtain rfl := Option.some.inj ea
  have := hc j xs[j] (List.getElem?_eq_getElem hj')
  rw [add_flat] at this
  simp only [Nat.zero_add] at this ⊢
  rw [this]
  simp [hj']
theorem own_putV {b T n c g K : Nat} {w : World} {xs ys : List Value} (hm : ys.length = xs.length) (h : w.ownsRow b T K (.slice (some ⟨g, 0, none⟩) n c) n xs) (q : Nat) :
    (Sort.putRow id (Sort.ahead w q) g 0 ys.toArray).ownsRow b T K (.slice (some ⟨g, 0, none⟩) n c) n ys ∧ w.grownBy (Sort.putRow id (Sort.ahead w q) g 0 ys.toArray) (some g) := by
  have hH := own_holdsV h
  rw [Lib.putRow_eq_setCells id w g 0 xs.toArray ys q hH (by simp; omega)]
  have hd : w.grownBy (w.drewN q) (some g) := ⟨rfl, rfl, rfl, Nat.le_refl _, fun _ _ _ => rfl⟩
  have h0 : w.grownBy (w.drewN q) none := ⟨rfl, rfl, rfl, Nat.le_refl _, fun _ _ _ => rfl⟩
  have h1 := h.kept h0 (by simp [Value.ownBlock])
  have hl : xs.length = n * K := h.1
  have h2 := Go.Proofs.Ytgimcnpkngpmiaa.GoK.own_setCells (ys.map id) 0 h1 (by rw [List.length_map]; omega)
  have e : xs.take 0 ++ ys.map id ++ xs.drop (0 + (ys.map id).length) = ys := by
    rw [List.length_map, Nat.zero_add, hm, List.drop_of_length_le (by omega)]
    simp
  rw [e] at h2
  exact ⟨h2.1, Aid.grown_tr hd h2.2⟩
theorem hlen (n : Nat) (W : World) (h : n ≤ 12) : Calls Try.prog 83 #[.int .u64 n] W fun e w' => (∃ l : Int, e = .returned (.int .i64 l)) ∧ w' = W :=
  (Try.bits_Len n W (by omega) (by omega)).mono fun _ _ ⟨he, hw⟩ => ⟨⟨_, he⟩, hw⟩
theorem sortF_len (l : List Postmark) : (sortF l).length = l.length := by
  have h := (insertionSort_holds (lt := ltOf cf) swo l.toArray 0 l.toArray.size (Nat.zero_le _) (Nat.le_refl _)).1.1
  unfold sortF
  rw [Array.length_toList, h]; simp
theorem sortF_perm (l : List Postmark) : (sortF l).Perm l := by
  obtain ⟨h1, _, h3⟩ := (insertionSort_holds (lt := ltOf cf) swo l.toArray 0 l.toArray.size (Nat.zero_le _) (Nat.le_refl _)).1
  unfold sortF
  generalize Sort.insertionSort (ltOf cf) l.toArray 0 l.toArray.size = S at h1 h3 ⊢
  have e : S.extract 0 l.toArray.size = S := by rw [← h1, Array.extract_size]
  rw [e, Array.extract_size] at h3
  exact h3
theorem sortF_sorted (l : List Postmark) : List.Pairwise (fun x y : Postmark => x.first ≤ y.first) (sortF l) := by
  have hS := (insertionSort_holds (lt := ltOf cf) swo l.toArray 0 l.toArray.size (Nat.zero_le _) (Nat.le_refl _))
  have hsz := hS.1.1
  have h2 := hS.2
  rw [List.pairwise_iff_getElem]
  intro i j hi hj hij
  unfold sortF at hi hj ⊢
  rw [Array.length_toList] at hi hj
  have h := h2 i j (Nat.zero_le _) hij (by omega)
  rw [lt_iff, getElem!_pos (Sort.insertionSort (ltOf cf) l.toArray 0 l.toArray.size) i hi, getElem!_pos (Sort.insertionSort (ltOf cf) l.toArray 0 l.toArray.size) j hj] at h
  simp only [decide_eq_false_iff_not] at h
  simp only [Array.getElem_toList]
  omega
theorem C (x_0 : List Postmark) (A0 : Option Addr) (c0 : Nat) (b0 : Nat) (w : World) (M0 : Hid (w.ownsRow b0 26 6 (.slice A0 x_0.length c0) x_0.length (flat x_0))) (N0 : Hid (x_0.length ≤ 9223372036854775807)) {l_ : List Postmark} (H : Hid (P x_0 = some l_)) :
    Calls Try.prog 73 #[.slice A0 x_0.length c0, .func (.func 74) #[] #[]] w (fun e w' => e = .returned (.tuple #[]) ∧ w'.ownsRow b0 26 6 (.slice A0 x_0.length c0) x_0.length (flat l_) ∧ l_.length = x_0.length ∧ w.grownBy w' (Value.slice A0 x_0.length c0).ownBlock) := by
  have h : P x_0 = some l_ := H
  unfold P at h
  by_cases hl : 0 < x_0.length ∧ x_0.length ≤ 12
  · rw [if_pos hl] at h
    obtain rfl := Option.some.inj h
    have M := M0.out
    have hlen0 := sortF_len x_0
    obtain ⟨g, rfl⟩ := own_some M hl.1
    have hg := (M.lt g (by simp [Value.ownBlock])).2
    have hH : HoldsK Postmark.cells 6 w g 0 x_0.toArray := by
      unfold HoldsK
      rw [flat_eq]
      exact own_holdsV M
    have eg : ∀ args w, (callFunc 74 args).run Try.prog w = .ok (.enter 74 args) w := enters_of Try.func74 (by kernel_rfl) rfl
    have con := Go.Proofs.AnyQ.slices_SortFunc_small Try.sortPm 6 Try.isAgg26 Try.sizeOf26 Postmark.cells (fun x => by simp [Postmark.cells]) (fun x v hv => by simp only [Postmark.cells, List.mem_cons, List.not_mem_nil, or_false] at hv; rcases hv with rfl | rfl | rfl | rfl | rfl | rfl <;> rfl) cf 74 #[] g 0 c0 x_0.toArray w eg (fun _ _ _ _ x y => by simpa using closure x y _) hH hg (by simpa using hl.2) hlen
    have hsz : x_0.toArray.size = x_0.length := by simp
    rw [hsz] at con
    refine con.mono ?_
    rintro e w' ⟨rfl, n, os, rfl⟩
    have hd : (Sort.insertionSort (ltOf cf) x_0.toArray 0 x_0.length) = (sortF x_0).toArray := by unfold sortF; rw [hsz]
    rw [hd]
    unfold sortWorldK putRowK
    rw [flat_eq]
    obtain ⟨h1, h2⟩ := own_putV (ys := flat (sortF x_0)) (by rw [flat_len, flat_len, hlen0]) M n
    have h3 := Go.Proofs.Ytgimcnpkngpmiaa.GoS.grown_grow (Sort.putRow id (Sort.ahead w n) g 0 (flat (sortF x_0)).toArray) os none
    exact ⟨rfl, h1.kept h3 (by simp [Value.ownBlock]), hlen0, Aid.grown_tr h2 (Go.Proofs.Ytgimcnpkngpmiaa.GoS.grown_grow _ os _)⟩
  · rw [if_neg hl] at h; simp at h
end Go.Proofs.Ytgimcnpkngpmiaa.GxSlicesSortFuncLoopExampleG01062ImplPostmarkLoopExampleG01062ImplPostmarkiGapBetween1

/- loop.example/g01062/impl.GapBetween as a plain function, and the contract of the program's: where the plain one has an answer, the program has it. Conditions: slices read as lists. -/
namespace Go.Proofs.Ytgimcnpkngpmiaa.GiGapBetween
set_option linter.unusedVariables false
set_option linter.unusedSimpArgs false
open Go.RowKit
open Go.Proofs.Ytgimcnpkngpmiaa.Rowed Go.Proofs.Ytgimcnpkngpmiaa.Turn Go.Proofs.Ytgimcnpkngpmiaa.Aid Go.Proofs.Ytgimcnpkngpmiaa.GoP Go.Proofs.Ytgimcnpkngpmiaa.GoM

def l0 (t_20 : (List Go.Proofs.Ytgimcnpkngpmiaa.PPostmark.Postmark)) (k0 : Nat) (s : Int × Int) (nx0 bk0 : Int × Int → Option (Int × Bool)) : Option (Int × Bool) :=
  unp2 s fun gap_7l0 reached_8l0 =>
  Option.bind (idx t_20 (k0 : Int)) fun (yt_24 : Go.Proofs.Ytgimcnpkngpmiaa.PPostmark.Postmark) =>
  unPostmark yt_24 fun (t_24_id : Int) (t_24_town : ByteArray) (t_24_kind_ : Int) (t_24_first : Int) (t_24_last : Int) (t_24_lost : ByteArray) =>
  letK (IntKind.i64.wrap (t_24_first - reached_8l0)) fun (t_32 : Int) =>
  letK (IntKind.i64.wrap (t_32 - 1)) fun (t_33 : Int) =>
  letK (max t_33 0) fun (t_34 : Int) =>
  letK (IntKind.i64.wrap (gap_7l0 + t_34)) fun (t_35 : Int) =>
  letK (max reached_8l0 t_24_last) fun (t_40 : Int) =>
  appK nx0 (t_35, t_40)

def e0  (s : Int × Int) : Option (Int × Bool) :=
  unp2 s fun gap_7l0 reached_8l0 =>
  some (gap_7l0, true)

def P (fuel : Nat) (list : (List Go.Proofs.Ytgimcnpkngpmiaa.PPostmark.Postmark)) (town : ByteArray) : Option (Int × Bool) :=
  Option.bind (Go.Proofs.Ytgimcnpkngpmiaa.GiMarksOf.P fuel list town) fun (t_4 : (List Go.Proofs.Ytgimcnpkngpmiaa.PPostmark.Postmark)) =>
  letK ((t_4.length : Int) == 0) fun (t_8 : Bool) =>
  iteK t_8
  (some (0, false))
  (Option.bind (Go.Proofs.Ytgimcnpkngpmiaa.GxSlicesSortFuncLoopExampleG01062ImplPostmarkLoopExampleG01062ImplPostmarkiGapBetween1.P t_4) fun (lt_12 : (List Go.Proofs.Ytgimcnpkngpmiaa.PPostmark.Postmark)) =>
  Option.bind (idx lt_12 0) fun (yt_15 : Go.Proofs.Ytgimcnpkngpmiaa.PPostmark.Postmark) =>
  unPostmark yt_15 fun (t_15_id : Int) (t_15_town : ByteArray) (t_15_kind_ : Int) (t_15_first : Int) (t_15_last : Int) (t_15_lost : ByteArray) =>
  guardK ((0 : Int) ≤ 1 ∧ (1 : Int) ≤ (lt_12.length : Int)) <|
  letK (List.drop (Int.toNat 1) lt_12) fun (t_20 : (List Go.Proofs.Ytgimcnpkngpmiaa.PPostmark.Postmark)) =>
  cntK (l0 t_20) (t_20.length) 0 (0, t_15_last) (e0 ))

set_option maxRecDepth 100000 in
set_option maxHeartbeats 2000000 in
theorem C (fuel : Nat) (list : (List Go.Proofs.Ytgimcnpkngpmiaa.PPostmark.Postmark)) (town : ByteArray) (A0 : Option Addr) (c0 : Nat)  (w : World) (M0 : Hid (Cells w 6 A0 list.length (Go.Proofs.Ytgimcnpkngpmiaa.PPostmark.flat list))) (N0 : Hid (list.length ≤ 9223372036854775807)) (Q0 : Hid (Room A0 list.length c0))  {r0 : Int} {r1 : Bool} (H : Hid (P fuel list town = some (r0, r1))) :
    Calls Try.prog 39 #[.slice A0 list.length c0, .string town] w (Gives (.tuple #[.int .i64 r0, .bool r1]) w) := by
  have HB := Lib.hid (Below.refl w.heap.size w)
  unfold P at H
  have N0o := N0.out
  obtain ⟨i0_26, hi_26, hz0_26, hz1_26, hz2_26⟩ := Aid.info_parts (P := Try.prog) (T := 26) (z := .agg #[.int .i64 0, .string ByteArray.empty, .int .i64 0, .int .i64 0, .int .i64 0, .string ByteArray.empty]) (s := 6) (b := 64) (by kernel_rfl)
  go_enter Try.func39, Try.ntmps39
  replace H := bind_hid H
  obtain ⟨t_4, qt_4, H⟩ := H
  go_wp2_with fail
  go_at_call 57
  refine (Go.Proofs.Ytgimcnpkngpmiaa.GiMarksOf.C fuel (list) (town) A0 c0 _   (Lib.hid (Cells.below M0.out HB.out)) N0 Q0 qt_4).mono ?_
  rintro e_t_4 wt_4 ⟨At_4, ct_4, rfl, ot_4, bt_4⟩
  have Ot_4 := Lib.hid (own_lower ot_4 HB.out.size)
  clear ot_4
  have HBwt_4 := Lib.hid (Below.step HB.out bt_4)
  clear bt_4
  replace H := let_hid H
  obtain ⟨t_8, ht_8, H⟩ := H
  cases t_8 with
  | false =>
    have nht_8 : ¬ (t_4.length = 0) := by have := ne_of_beq_false ht_8; omega
    replace H := ite_f H
    replace H := bind_hid H
    obtain ⟨lt_12, qt_12, H⟩ := H
    go_wp2_with fail
    go_at_call 73
    refine (Go.Proofs.Ytgimcnpkngpmiaa.GxSlicesSortFuncLoopExampleG01062ImplPostmarkLoopExampleG01062ImplPostmarkiGapBetween1.C (t_4) At_4 ct_4 w.heap.size _   Ot_4 (Lib.hid (own_max Ot_4.out))   qt_12).mono ?_
    rintro e_t_12 wt_12 ⟨rfl, ot_12, nt_12, gt_12⟩
    have Pt_12 := Lib.hid ot_12
    have Gt_12 := Lib.hid gt_12
    replace nt_12 := Lib.hid nt_12
    clear ot_12 gt_12
    have HBwt_12 := Lib.hid (HBwt_4.out.grown Gt_12.out HBwt_4.out.size (fun q hq => (Ot_4.out.lt q hq).1))
    clear Ot_4 Gt_12
    replace H := idx_hid H
    obtain ⟨nt_15, yt_15, et_15, lt_15, gt_15, H⟩ := H
    obtain rfl : 0 = nt_15 := by omega
    clear et_15
    obtain ⟨t_15_id, t_15_town, t_15_kind_, t_15_first, t_15_last, t_15_lost⟩ := yt_15
    replace H := unPostmark_hid H
    have hqt_15 := nt_12.out
    obtain ⟨qt_15, Qt_15⟩ := own_some Pt_12.out (by omega)
    subst Qt_15
    obtain ⟨ab_t_15, ao_t_15, zt_15, At_15, z_t_15, ct_15_0, ct_15_1, ct_15_2, ct_15_3, ct_15_4, ct_15_5⟩ := Go.Proofs.Ytgimcnpkngpmiaa.OPostmark.at_ (own_cells Pt_12.out) (k := 0) (by omega)
    obtain rfl := Option.some.inj (gt_15.out.symm.trans z_t_15)
    simp only [Option.some.injEq, Addr.mk.injEq] at At_15
    obtain ⟨rfl, rfl, _⟩ := At_15
    clear z_t_15
    have b1t_15 : (0 : Int) < ((t_4.length : Nat) : Int) := by omega
    have b3t_15 : 0 < t_4.length := by omega
    try simp only [Nat.zero_mul, Nat.add_zero, Nat.zero_add, Nat.reduceMul] at ct_15_0 ct_15_1 ct_15_2 ct_15_3 ct_15_4 ct_15_5
    clear hqt_15
    replace H := guard_hid H
    obtain ⟨hl_t_20, H⟩ := H
    replace H := let_hid H
    obtain ⟨t_20, ht_20, H⟩ := H
    have hht_20 := Lib.hid ht_20
    have hgt_20 := Lib.hid hl_t_20
    clear ht_20
    clear hl_t_20
    obtain ⟨At_20, ct_20, rt_20, mt_20, qt_20⟩ := Go.Proofs.Ytgimcnpkngpmiaa.GoD.slice_view (P := Try.prog) (t := 32) (e := 26) (k := .i64) (lo := 1) (ys := (Go.Proofs.Ytgimcnpkngpmiaa.PPostmark.flat t_20)) (m := t_20.length) (by kernel_rfl) (by kernel_rfl) hi_26 hz1_26 Pt_12.out (by have h_ := hgt_20.out; have hq_ := nt_12.out; omega) (by have hq_ := nt_12.out; rw [← hht_20.out, List.length_drop] <;> omega) (by rw [← hht_20.out]; exact flat_drop Go.Proofs.Ytgimcnpkngpmiaa.PPostmark.Postmark.cells 6 (fun _ => rfl) _ _)
    have Mt_20 := Lib.hid mt_20
    have Qt_20 := Lib.hid qt_20
    have Nt_20 : Hid (t_20.length ≤ 9223372036854775807) := Lib.hid (by have hq_ := nt_12.out; have h_ := own_max Pt_12.out; rw [← hht_20.out, List.length_drop] <;> omega)
    have hb_0 : t_20.length ≤ 9223372036854775807 := Nt_20.out
    go_wp2_with fail
    go_loopg [26, 7, 8] (t_20.length) (fun m_ v26_ v7_ v8_ wr => ∃ (k0 : Nat) (gap_7l0 : Int) (reached_8l0 : Int), k0 + m_ = t_20.length ∧ v26_ = .int .i64 (k0 : Int) ∧ v7_ = .int .i64 gap_7l0 ∧ v8_ = .int .i64 reached_8l0 ∧ Hid (cntK (l0 t_20) m_ k0 (gap_7l0, reached_8l0) (e0 ) = some (r0, r1)) ∧ Hid (Below w.heap.size w wr) ∧ Hid (wr.ownsRow w.heap.size 26 6 (.slice (some ⟨qt_15, 0, none⟩) t_4.length ct_4) t_4.length (Go.Proofs.Ytgimcnpkngpmiaa.PPostmark.flat lt_12)))
    case atStart => exact ⟨0, _, _, by omega, rfl, rfl, rfl, H, HBwt_12, Pt_12⟩
    case round =>
      obtain ⟨k0, gap_7l0, reached_8l0, hkm0, rfl, rfl, rfl, H, HBwr0, Pt_12⟩ := hrel
      rename World => wr0
      cases gk with
      | zero =>
        obtain rfl : k0 = t_20.length := by omega
        have hc0 : decide (((t_20.length : Nat) : Int) < ((t_20.length : Nat) : Int)) = false := by simp
        replace H := cnt_zero H
        unfold e0 at H
        replace H := unp2_hid H
        cases ret_hid H
        go_wp2_with fail
        go_ret2
        exact ⟨rfl, HBwr0.out⟩
      | succ m0 =>
        have hlt0 : k0 < t_20.length := by omega
        have hc0 : decide ((k0 : Int) < ((t_20.length : Nat) : Int)) = true := by simp; omega
        replace H := cnt_succ H
        unfold l0 at H
        replace H := unp2_hid H
        replace H := idx_hid H
        obtain ⟨nt_24, yt_24, et_24, lt_24, gt_24, H⟩ := H
        obtain rfl : k0 = nt_24 := by omega
        clear et_24
        obtain ⟨t_24_id, t_24_town, t_24_kind_, t_24_first, t_24_last, t_24_lost⟩ := yt_24
        replace H := unPostmark_hid H
        obtain ⟨ab_t_24, ao_t_24, zt_24, At_24, z_t_24, ct_24_0, ct_24_1, ct_24_2, ct_24_3, ct_24_4, ct_24_5⟩ := Go.Proofs.Ytgimcnpkngpmiaa.OPostmark.at_ (Mt_20.out _ Pt_12.out) lt_24
        obtain rfl := Option.some.inj (gt_24.out.symm.trans z_t_24)
        subst At_24
        clear z_t_24
        have b0t_24 : (0 : Int) ≤ (k0 : Int) := by omega
        have b1t_24 : (k0 : Int) < ((t_20.length : Nat) : Int) := by omega
        have b2t_24 : ((k0 : Int)).toNat = k0 := by omega
        obtain ⟨w_p_26, hw_p_26⟩ : ∃ x, wr0.alloc (.cells #[.int .i64 t_24_id, .string t_24_town, .int .i64 t_24_kind_, .int .i64 t_24_first, .int .i64 t_24_last, .string t_24_lost] 26) = x := ⟨_, rfl⟩
        have bw_p_26 : Below wr0.heap.size wr0 w_p_26 := by rw [← hw_p_26]; exact (Below.refl _ _).alloc (Nat.le_refl _) _
        have Dp_26_t_4 := Lib.hid (apart_fresh Pt_12.out)
        have HBw_p_26 := Lib.hid (Below.step HBwr0.out bw_p_26)
        have ct_24_0__176 := cell_below bw_p_26 ct_24_0
        have ct_24_1__177 := cell_below bw_p_26 ct_24_1
        have ct_24_2__178 := cell_below bw_p_26 ct_24_2
        have ct_24_3__179 := cell_below bw_p_26 ct_24_3
        have ct_24_4__180 := cell_below bw_p_26 ct_24_4
        have ct_24_5__181 := cell_below bw_p_26 ct_24_5
        replace Pt_12 := Lib.hid (own_below Pt_12.out bw_p_26)
        clear bw_p_26
        have kp_26_0 : w_p_26.cell? ⟨wr0.heap.size, 0, none⟩ = some (.int .i64 t_24_id) := by rw [← hw_p_26]; exact box_new _ _ _ 0 _ rfl
        have kp_26_1 : w_p_26.cell? ⟨wr0.heap.size, 1, none⟩ = some (.string t_24_town) := by rw [← hw_p_26]; exact box_new _ _ _ 1 _ rfl
        have kp_26_2 : w_p_26.cell? ⟨wr0.heap.size, 2, none⟩ = some (.int .i64 t_24_kind_) := by rw [← hw_p_26]; exact box_new _ _ _ 2 _ rfl
        have kp_26_3 : w_p_26.cell? ⟨wr0.heap.size, 3, none⟩ = some (.int .i64 t_24_first) := by rw [← hw_p_26]; exact box_new _ _ _ 3 _ rfl
        have kp_26_4 : w_p_26.cell? ⟨wr0.heap.size, 4, none⟩ = some (.int .i64 t_24_last) := by rw [← hw_p_26]; exact box_new _ _ _ 4 _ rfl
        have kp_26_5 : w_p_26.cell? ⟨wr0.heap.size, 5, none⟩ = some (.string t_24_lost) := by rw [← hw_p_26]; exact box_new _ _ _ 5 _ rfl
        replace H := let_hid H
        obtain ⟨t_32, ht_32, H⟩ := H
        replace H := let_hid H
        obtain ⟨t_33, ht_33, H⟩ := H
        replace H := let_hid H
        obtain ⟨t_34, ht_34, H⟩ := H
        replace H := let_hid H
        obtain ⟨t_35, ht_35, H⟩ := H
        replace H := let_hid H
        obtain ⟨t_40, ht_40, H⟩ := H
        replace H := app_hid H
        go_wp2_with fail
        clear ct_24_0 ct_24_1 ct_24_2 ct_24_3 ct_24_4 ct_24_5
        go_roundg m0
        case measure => omega
        case rel => exact ⟨k0 + 1, _, _, by omega, by go_num, rfl, rfl, H, HBw_p_26, Pt_12⟩
  | true =>
    have Hht_8 : Hid (t_4.length = 0) := Lib.hid (by have := eq_of_beq ht_8; omega)
    have nht_8 : (t_4.length == 0) = true := beq_iff_eq.2 Hht_8.out
    replace H := ite_t H
    cases ret_hid H
    go_wp2_with fail
    go_ret2
    exact ⟨rfl, HBwt_4.out⟩
end Go.Proofs.Ytgimcnpkngpmiaa.GiGapBetween

/- loop.example/g01062/laws.FnExactGapBetween as a plain function, and the contract of the program's: where the plain one has an answer, the program has it. Conditions: slices read as lists. -/
namespace Go.Proofs.Ytgimcnpkngpmiaa.GlFnExactGapBetween
set_option linter.unusedVariables false
set_option linter.unusedSimpArgs false
open Go.RowKit
open Go.Proofs.Ytgimcnpkngpmiaa.Rowed Go.Proofs.Ytgimcnpkngpmiaa.Turn Go.Proofs.Ytgimcnpkngpmiaa.Aid Go.Proofs.Ytgimcnpkngpmiaa.GoP Go.Proofs.Ytgimcnpkngpmiaa.GoM

def P (fuel : Nat) (aList : (List Go.Proofs.Ytgimcnpkngpmiaa.PPostmark.Postmark)) (aTown : ByteArray) : Option (Bool) :=
  letK (decide (1048576 < (aTown.size : Int))) fun (t_3 : Bool) =>
  iteK t_3
  (some true)
  (Option.bind (Go.Proofs.Ytgimcnpkngpmiaa.GlSzPostmarkS.P aList 1048576) fun (t_8 : Int) =>
  letK (decide (t_8 < 0)) fun (t_11 : Bool) =>
  iteK t_11
  (some true)
  (Option.bind (Go.Proofs.Ytgimcnpkngpmiaa.GlToPostmarkS.P aList) fun (t_14 : (List Go.Proofs.Ytgimcnpkngpmiaa.PPostmark.Postmark)) =>
  bind2 (Go.Proofs.Ytgimcnpkngpmiaa.GsGapBetween.P fuel t_14 aTown) fun (t_16a : Int) (t_16b : Bool) =>
  Option.bind (Go.Proofs.Ytgimcnpkngpmiaa.GlToPostmarkS.P aList) fun (t_23 : (List Go.Proofs.Ytgimcnpkngpmiaa.PPostmark.Postmark)) =>
  bind2 (Go.Proofs.Ytgimcnpkngpmiaa.GiGapBetween.P fuel t_23 aTown) fun (t_27a : Int) (t_27b : Bool) =>
  letK (t_27a != t_16a) fun (t_35 : Bool) =>
  joinK (fun (t_40 : Bool) =>
  iteK t_40
  (some false)
  (Option.bind (Go.Proofs.Ytgimcnpkngpmiaa.GlToPostmarkS.P aList) fun (t_44 : (List Go.Proofs.Ytgimcnpkngpmiaa.PPostmark.Postmark)) =>
  Option.bind (Go.Proofs.Ytgimcnpkngpmiaa.GlEqPostmarkS.P t_23 t_44) fun (t_45 : Bool) =>
  letK (!t_45) fun (t_46 : Bool) =>
  iteK t_46
  (some false)
  (some true))) fun jt_40 => iteK t_35 (appK jt_40 true) (letK (!(t_27b == t_16b)) fun (t_39 : Bool) =>
  appK jt_40 t_39)))

set_option maxRecDepth 100000 in
set_option maxHeartbeats 2000000 in
theorem C (fuel : Nat) (aList : (List Go.Proofs.Ytgimcnpkngpmiaa.PPostmark.Postmark)) (aTown : ByteArray) (A0 : Option Addr) (c0 : Nat)  (w : World) (M0 : Hid (Cells w 6 A0 aList.length (Go.Proofs.Ytgimcnpkngpmiaa.PPostmark.flat aList))) (N0 : Hid (aList.length ≤ 9223372036854775807))  {r : Bool} (H : Hid (P fuel aList aTown = some r)) :
    Calls Try.prog 11 #[.slice A0 aList.length c0, .string aTown] w (Gives (.bool r) w) := by
  have HB := Lib.hid (Below.refl w.heap.size w)
  unfold P at H
  have N0o := N0.out
  go_enter Try.func11, Try.ntmps11
  replace H := let_hid H
  obtain ⟨t_3, ht_3, H⟩ := H
  cases t_3 with
  | false =>
    have nht_3 : ¬ (1048576 < aTown.size) := by have := of_decide_eq_false ht_3; omega
    replace H := ite_f H
    replace H := bind_hid H
    obtain ⟨t_8, qt_8, H⟩ := H
    go_wp2_with fail
    go_at_call 16
    refine (Go.Proofs.Ytgimcnpkngpmiaa.GlSzPostmarkS.C (aList) (1048576) A0 c0 _   (Lib.hid (Cells.below M0.out HB.out)) N0 qt_8).mono ?_
    rintro e_t_8 wt_8 ⟨rfl, bt_8⟩
    have HBwt_8 := Lib.hid (Below.step HB.out bt_8)
    clear bt_8
    replace H := let_hid H
    obtain ⟨t_11, ht_11, H⟩ := H
    cases t_11 with
    | false =>
      replace H := ite_f H
      replace H := bind_hid H
      obtain ⟨t_14, qt_14, H⟩ := H
      go_wp2_with fail
      go_at_call 18
      refine (Go.Proofs.Ytgimcnpkngpmiaa.GlToPostmarkS.C (aList) A0 c0 _   (Lib.hid (Cells.below M0.out HBwt_8.out)) N0 qt_14).mono ?_
      rintro e_t_14 wt_14 ⟨At_14, ct_14, rfl, ot_14, bt_14⟩
      have Ot_14 := Lib.hid (own_lower ot_14 HBwt_8.out.size)
      clear ot_14
      have HBwt_14 := Lib.hid (Below.step HBwt_8.out bt_14)
      clear bt_14
      replace H := bind2_hid H
      obtain ⟨t_16a, t_16b, qt_16, H⟩ := H
      go_wp2_with fail
      go_at_call 38
      refine (Go.Proofs.Ytgimcnpkngpmiaa.GsGapBetween.C fuel (t_14) (aTown) At_14 ct_14 _   (Lib.hid (own_cells Ot_14.out)) (Lib.hid (own_max Ot_14.out)) qt_16).mono ?_
      rintro e_t_16 wt_16 ⟨rfl, bt_16⟩
      have HBwt_16 := Lib.hid (Below.step HBwt_14.out bt_16)
      replace Ot_14 := Lib.hid (own_below Ot_14.out bt_16)
      clear bt_16
      replace H := bind_hid H
      obtain ⟨t_23, qt_23, H⟩ := H
      go_wp2_with fail
      go_at_call 18
      refine (Go.Proofs.Ytgimcnpkngpmiaa.GlToPostmarkS.C (aList) A0 c0 _   (Lib.hid (Cells.below M0.out HBwt_16.out)) N0 qt_23).mono ?_
      rintro e_t_23 wt_23 ⟨At_23, ct_23, rfl, ot_23, bt_23⟩
      have Dt_23_t_14 := Lib.hid (apart_call ot_23 Ot_14.out)
      have Ot_23 := Lib.hid (own_lower ot_23 HBwt_16.out.size)
      clear ot_23
      have HBwt_23 := Lib.hid (Below.step HBwt_16.out bt_23)
      replace Ot_14 := Lib.hid (own_below Ot_14.out bt_23)
      clear bt_23
      replace H := bind2_hid H
      obtain ⟨t_27a, t_27b, qt_27, H⟩ := H
      go_wp2_with fail
      go_at_call 39
      refine (Go.Proofs.Ytgimcnpkngpmiaa.GiGapBetween.C fuel (t_23) (aTown) At_23 ct_23 _   (Lib.hid (own_cells Ot_23.out)) (Lib.hid (own_max Ot_23.out)) (Lib.hid (own_room Ot_23.out)) qt_27).mono ?_
      rintro e_t_27 wt_27 ⟨rfl, bt_27⟩
      have HBwt_27 := Lib.hid (Below.step HBwt_23.out bt_27)
      replace Ot_14 := Lib.hid (own_below Ot_14.out bt_27)
      replace Ot_23 := Lib.hid (own_below Ot_23.out bt_27)
      clear bt_27
      replace H := let_hid H
      obtain ⟨t_35, ht_35, H⟩ := H
      replace H := join_hid H
      cases t_35 with
      | false =>
        replace H := ite_f H
        replace H := let_hid H
        obtain ⟨t_39, ht_39, H⟩ := H
        replace H := app_hid H
        cases t_39 with
        | false =>
          replace H := ite_f H
          replace H := bind_hid H
          obtain ⟨t_44, qt_44, H⟩ := H
          go_wp2_with fail
          go_at_call 18
          refine (Go.Proofs.Ytgimcnpkngpmiaa.GlToPostmarkS.C (aList) A0 c0 _   (Lib.hid (Cells.below M0.out HBwt_27.out)) N0 qt_44).mono ?_
          rintro e_t_44 wt_44 ⟨At_44, ct_44, rfl, ot_44, bt_44⟩
          have Dt_44_t_14 := Lib.hid (apart_call ot_44 Ot_14.out)
          have Dt_44_t_23 := Lib.hid (apart_call ot_44 Ot_23.out)
          have Ot_44 := Lib.hid (own_lower ot_44 HBwt_27.out.size)
          clear ot_44
          have HBwt_44 := Lib.hid (Below.step HBwt_27.out bt_44)
          replace Ot_14 := Lib.hid (own_below Ot_14.out bt_44)
          replace Ot_23 := Lib.hid (own_below Ot_23.out bt_44)
          clear bt_44
          replace H := bind_hid H
          obtain ⟨t_45, qt_45, H⟩ := H
          go_wp2_with fail
          go_at_call 20
          refine (Go.Proofs.Ytgimcnpkngpmiaa.GlEqPostmarkS.C (t_23) (t_44) At_23 ct_23 At_44 ct_44 _   (Lib.hid (own_cells Ot_23.out)) (Lib.hid (own_max Ot_23.out)) (Lib.hid (own_cells Ot_44.out)) (Lib.hid (own_max Ot_44.out)) qt_45).mono ?_
          rintro e_t_45 wt_45 ⟨rfl, bt_45⟩
          have HBwt_45 := Lib.hid (Below.step HBwt_44.out bt_45)
          replace Ot_14 := Lib.hid (own_below Ot_14.out bt_45)
          replace Ot_23 := Lib.hid (own_below Ot_23.out bt_45)
          replace Ot_44 := Lib.hid (own_below Ot_44.out bt_45)
          clear bt_45
          cases t_45 with
          | false =>
            replace H := let_hid H
            obtain ⟨t_46, ht_46, H⟩ := H
            obtain rfl : t_46 = true := ht_46.symm
            replace H := ite_t H
            obtain rfl := ret_hid H
            go_wp2_with fail
            go_ret
            exact ⟨rfl, HBwt_45.out⟩
          | true =>
            replace H := let_hid H
            obtain ⟨t_46, ht_46, H⟩ := H
            obtain rfl : t_46 = false := ht_46.symm
            replace H := ite_f H
            obtain rfl := ret_hid H
            go_wp2_with fail
            go_ret
            exact ⟨rfl, HBwt_45.out⟩
        | true =>
          replace H := ite_t H
          obtain rfl := ret_hid H
          go_wp2_with fail
          go_ret
          exact ⟨rfl, HBwt_27.out⟩
      | true =>
        replace H := ite_t H
        replace H := app_hid H
        replace H := ite_t H
        obtain rfl := ret_hid H
        go_wp2_with fail
        go_ret
        exact ⟨rfl, HBwt_27.out⟩
    | true =>
      replace H := ite_t H
      obtain rfl := ret_hid H
      go_wp2_with fail
      go_ret
      exact ⟨rfl, HBwt_8.out⟩
  | true =>
    have nht_3 : 1048576 < aTown.size := by have := of_decide_eq_true ht_3; omega
    replace H := ite_t H
    obtain rfl := ret_hid H
    go_wp2_with fail
    go_ret
    exact ⟨rfl, HB.out⟩
end Go.Proofs.Ytgimcnpkngpmiaa.GlFnExactGapBetween

/- Chapter 11: postmarks: the plain functions of the program and of the reference agree, and the laws answer true. (Q11Sweep) No condition but those of each theorem. -/
namespace Go.Proofs.Ytgimcnpkngpmiaa.Q11Sweep
set_option linter.unusedVariables false
set_option linter.unusedSimpArgs false
open Go.RowKit
open Go.Proofs.Ytgimcnpkngpmiaa.GoP Go.Proofs.Ytgimcnpkngpmiaa.PlainStamp Go.Proofs.Ytgimcnpkngpmiaa.QBase Go.Proofs.Ytgimcnpkngpmiaa.QLoop

def cntN (f : Nat → Bool) (n : Nat) : Nat := ((List.range n).filter f).length
theorem cntN_succ (f : Nat → Bool) (n : Nat) : cntN f (n + 1) = cntN f n + (if f n = true then 1 else 0) := by
  unfold cntN
  rw [List.range_succ, List.filter_append, List.length_append]
  cases h : f n <;> simp [List.filter, h]
theorem cntN_congr {f g : Nat → Bool} {n : Nat} (h : ∀ i, i < n → f i = g i) : cntN f n = cntN g n := by
  induction n with
  | zero => rfl
  | succ n ih => rw [cntN_succ, cntN_succ, ih (fun i hi => h i (by omega)), h n (by omega)]
theorem cntN_le (f : Nat → Bool) (n : Nat) : cntN f n ≤ n := by
  unfold cntN
  have := List.length_filter_le f (List.range n)
  simpa using this
theorem cntN_ext {f : Nat → Bool} {n q : Nat} : ∀ m, (∀ i, n ≤ i → i < n + m → f i = decide (i < q)) → cntN f (n + m) = cntN f n + (min (max q n) (n + m) - n) := by
  intro m
  induction m with
  | zero => intro _; simp; omega
  | succ m ih =>
    intro h
    rw [← Nat.add_assoc, cntN_succ, ih (fun i h1 h2 => h i h1 (by omega)), h (n + m) (by omega) (by omega)]
    by_cases hq : n + m < q
    · simp only [hq, decide_true, if_true]; omega
    · simp only [hq, decide_false, Bool.false_eq_true, if_false]; omega
/-- days (from, until) of the uses; the sweep over them in the order of their first days -/
def covB (l : List (Nat × Nat)) (d : Nat) : Bool := l.any fun p => decide (p.1 ≤ d) && decide (d ≤ p.2)
def sweep (g R : Nat) : List (Nat × Nat) → Nat × Nat
  | [] => (g, R)
  | p :: r => sweep (g + (p.1 - R - 1)) (max R p.2) r
theorem sweep_is (f0 : Nat) : ∀ (r pre : List (Nat × Nat)) (g R : Nat), (∀ p ∈ pre, f0 ≤ p.1 ∧ p.1 ≤ p.2 ∧ p.2 ≤ R) → (∃ p ∈ pre, p.2 = R) → (∀ p ∈ pre, ∀ q ∈ r, p.1 ≤ q.1) → List.Pairwise (fun p q => p.1 ≤ q.1) r → (∀ p ∈ r, p.1 ≤ p.2) →
    g = cntN (fun i => !covB pre (f0 + i)) (R + 1 - f0) →
    (sweep g R r).1 = cntN (fun i => !covB (pre ++ r) (f0 + i)) ((sweep g R r).2 + 1 - f0) ∧ (∀ p ∈ pre ++ r, p.2 ≤ (sweep g R r).2) ∧ (∃ p ∈ pre ++ r, p.2 = (sweep g R r).2) := by
  intro r
  induction r with
  | nil =>
    intro pre g R h1 h2 _ _ _ hg
    simp only [sweep, List.append_nil]
    exact ⟨hg, fun p hp => (h1 p hp).2.2, h2⟩
  | cons q r ih =>
    intro pre g R h1 h2 h3 h4 h5 hg
    have hq := h5 q List.mem_cons_self
    obtain ⟨m, hm, hmR⟩ := h2
    have hm1 := h1 m hm
    have hmq := h3 m hm q List.mem_cons_self
    have e : pre ++ q :: r = (pre ++ [q]) ++ r := by simp
    rw [e]
    simp only [sweep]
    have hcov : ∀ d, covB (pre ++ [q]) d = (covB pre d || (decide (q.1 ≤ d) && decide (d ≤ q.2))) := by intro d; simp [covB]
    refine ih (pre ++ [q]) _ _ ?_ ?_ ?_ (List.pairwise_cons.1 h4).2 (fun p hp => h5 p (List.mem_cons_of_mem _ hp)) ?_
    · intro p hp
      rcases List.mem_append.1 hp with hp | hp
      · have := h1 p hp; omega
      · rw [List.mem_singleton] at hp; subst hp; omega
    · by_cases hR : q.2 ≤ R
      · exact ⟨m, List.mem_append_left _ hm, by omega⟩
      · exact ⟨q, List.mem_append_right _ (List.mem_singleton.2 rfl), by omega⟩
    · intro p hp s hs
      rcases List.mem_append.1 hp with hp | hp
      · exact h3 p hp s (List.mem_cons_of_mem _ hs)
      · rw [List.mem_singleton] at hp; subst hp; exact (List.pairwise_cons.1 h4).1 s hs
    · have hlow : ∀ i, i < R + 1 - f0 → (!covB (pre ++ [q]) (f0 + i)) = (!covB pre (f0 + i)) := by
        intro i hi
        rw [hcov]
        by_cases hc : q.1 ≤ f0 + i ∧ f0 + i ≤ q.2
        · have : covB pre (f0 + i) = true := by
            unfold covB
            rw [List.any_eq_true]
            exact ⟨m, hm, by simp; omega⟩
          simp [this]
        · have : (decide (q.1 ≤ f0 + i) && decide (f0 + i ≤ q.2)) = false := by simp; omega
          rw [this, Bool.or_false]
      have hhi : ∀ i, R + 1 - f0 ≤ i → i < R + 1 - f0 + (max R q.2 - R) → (!covB (pre ++ [q]) (f0 + i)) = decide (i < q.1 - f0) := by
        intro i h6 h7
        have hno : covB pre (f0 + i) = false := by
          unfold covB
          rw [List.any_eq_false]
          intro p hp
          have := h1 p hp
          simp; omega
        rw [hcov, hno, Bool.false_or, Bool.eq_iff_iff]
        simp; omega
      have hsum := cntN_ext (f := fun i => !covB (pre ++ [q]) (f0 + i)) (n := R + 1 - f0) (q := q.1 - f0) (max R q.2 - R) hhi
      rw [show R + 1 - f0 + (max R q.2 - R) = max R q.2 + 1 - f0 by omega] at hsum
      rw [hsum, cntN_congr hlow, ← hg]
      omega
theorem cntN_none {f : Nat → Bool} {n : Nat} (h : ∀ i, i < n → f i = false) : cntN f n = 0 := by
  induction n with
  | zero => rfl
  | succ n ih => rw [cntN_succ, ih (fun i hi => h i (by omega)), h n (by omega)]; rfl
theorem covB_perm {l m : List (Nat × Nat)} (h : l.Perm m) (d : Nat) : covB l d = covB m d := by
  unfold covB
  rw [Bool.eq_iff_iff, List.any_eq_true, List.any_eq_true]
  constructor
  · rintro ⟨x, hx, hp⟩; exact ⟨x, h.mem_iff.1 hx, hp⟩
  · rintro ⟨x, hx, hp⟩; exact ⟨x, h.mem_iff.2 hx, hp⟩
end Go.Proofs.Ytgimcnpkngpmiaa.Q11Sweep

/- Chapter 9: mails and routes: the plain functions of the program and of the reference agree, and the laws answer true. (QFoldS) No condition but those of each theorem. -/
namespace Go.Proofs.Ytgimcnpkngpmiaa.QFoldS
set_option linter.unusedVariables false
set_option linter.unusedSimpArgs false
open Go.RowKit
open Go.Proofs.Ytgimcnpkngpmiaa.GoP Go.Proofs.Ytgimcnpkngpmiaa.PlainStamp Go.Proofs.Ytgimcnpkngpmiaa.QBase Go.Proofs.Ytgimcnpkngpmiaa.QLoop

/-- a counted loop that carries a state through a list -/
theorem fold_cnt {α σ ρ : Type} {l : List α} {g : σ → α → σ} {J : σ → Prop} {f : Nat → σ → (σ → Option ρ) → (σ → Option ρ) → Option ρ} {fin : σ → Option ρ}
    (step : ∀ k x s nx, l[k]? = some x → J s → f k s nx fin = nx (g s x) ∧ J (g s x)) {s : σ} (hs : J s) : cntK f l.length 0 s fin = fin (l.foldl g s) := by
  have key : ∀ m k s, k + m = l.length → J s → cntK f m k s fin = fin ((l.drop k).foldl g s) := by
    intro m
    induction m with
    | zero => intro k s hk _; rw [List.drop_eq_nil_of_le (by omega)]; rfl
    | succ m ih =>
      intro k s hk hJ
      have hlt : k < l.length := by omega
      have hx : l[k]? = some l[k] := List.getElem?_eq_getElem hlt
      obtain ⟨h1, h2⟩ := step k l[k] s (fun s' => cntK f m (k + 1) s' fin) hx hJ
      show f k s _ fin = _
      rw [h1, ih (k + 1) _ (by omega) h2, List.drop_eq_getElem_cons hlt, List.foldl_cons]
  exact key l.length 0 s (by omega) hs
end Go.Proofs.Ytgimcnpkngpmiaa.QFoldS

/- Chapter 11: postmarks: the plain functions of the program and of the reference agree, and the laws answer true. (Q11Gap) No condition but those of each theorem. -/
namespace Go.Proofs.Ytgimcnpkngpmiaa.Q11Gap
set_option linter.unusedVariables false
set_option linter.unusedSimpArgs false
open Go.RowKit
open Go.Proofs.Ytgimcnpkngpmiaa.GoP Go.Proofs.Ytgimcnpkngpmiaa.PlainStamp Go.Proofs.Ytgimcnpkngpmiaa.QBase Go.Proofs.Ytgimcnpkngpmiaa.QWord Go.Proofs.Ytgimcnpkngpmiaa.Q11Sweep Go.Proofs.Ytgimcnpkngpmiaa.QFoldS Go.Proofs.Ytgimcnpkngpmiaa.Q11Towns Go.Proofs.Ytgimcnpkngpmiaa.Q11Marks Go.Proofs.Ytgimcnpkngpmiaa.Q11Extend Go.Proofs.Ytgimcnpkngpmiaa.Q11Find Go.Proofs.Ytgimcnpkngpmiaa.QCount Go.Proofs.Ytgimcnpkngpmiaa.QOrd Go.Proofs.Ytgimcnpkngpmiaa.Q11List Go.Proofs.Ytgimcnpkngpmiaa.Q11Mark Go.Proofs.Ytgimcnpkngpmiaa.QUp Go.Proofs.Ytgimcnpkngpmiaa.QAll Go.Proofs.Ytgimcnpkngpmiaa.QLoop Go.Proofs.Ytgimcnpkngpmiaa.PPostmark

/-- the days of a use -/
def pr (x : Postmark) : Nat × Nat := (x.first.toNat, x.last.toNat)
def flStep (s : Int × Int) (x : Postmark) : Int × Int := (min s.1 x.first, max s.2 x.last)
/-- the first and the last day of any use -/
def fl (M : List Postmark) : Int × Int := M.foldl flStep (4000, -1)
theorem fl_key : ∀ (M : List Postmark) (s : Int × Int), ((M.foldl flStep s).1 ≤ s.1 ∧ ∀ x ∈ M, (M.foldl flStep s).1 ≤ x.first) ∧ (s.2 ≤ (M.foldl flStep s).2 ∧ ∀ x ∈ M, x.last ≤ (M.foldl flStep s).2) ∧ ((M.foldl flStep s).1 = s.1 ∨ ∃ x ∈ M, x.first = (M.foldl flStep s).1) ∧ ((M.foldl flStep s).2 = s.2 ∨ ∃ x ∈ M, x.last = (M.foldl flStep s).2) := by
  intro M
  induction M with
  | nil => intro s; simp
  | cons a r ih =>
    intro s
    obtain ⟨⟨h1, h2⟩, ⟨h3, h4⟩, h5, h6⟩ := ih (flStep s a)
    rw [List.foldl_cons]
    have e1 : (flStep s a).1 = min s.1 a.first := rfl
    have e2 : (flStep s a).2 = max s.2 a.last := rfl
    refine ⟨⟨by omega, fun x hx => ?_⟩, ⟨by omega, fun x hx => ?_⟩, ?_, ?_⟩
    · rcases List.mem_cons.1 hx with rfl | hx
      · omega
      · exact h2 x hx
    · rcases List.mem_cons.1 hx with rfl | hx
      · omega
      · exact h4 x hx
    · rcases h5 with h5 | ⟨x, hx, h5⟩
      · by_cases h : s.1 ≤ a.first
        · exact Or.inl (by omega)
        · exact Or.inr ⟨a, List.mem_cons_self, by omega⟩
      · exact Or.inr ⟨x, List.mem_cons_of_mem _ hx, h5⟩
    · rcases h6 with h6 | ⟨x, hx, h6⟩
      · by_cases h : a.last ≤ s.2
        · exact Or.inl (by omega)
        · exact Or.inr ⟨a, List.mem_cons_self, by omega⟩
      · exact Or.inr ⟨x, List.mem_cons_of_mem _ hx, h6⟩
/-- a use of days 0 to 4000 -/
def goodD (x : Postmark) : Prop := 0 ≤ x.first ∧ x.first ≤ x.last ∧ x.last ≤ 4000
theorem fl_facts {M : List Postmark} (hg : ∀ x ∈ M, goodD x) (hne : M ≠ []) : (∀ x ∈ M, (fl M).1 ≤ x.first) ∧ (∃ x ∈ M, x.first = (fl M).1) ∧ (∀ x ∈ M, x.last ≤ (fl M).2) ∧ (∃ x ∈ M, x.last = (fl M).2) := by
  obtain ⟨⟨h1, h2⟩, ⟨h3, h4⟩, h5, h6⟩ := fl_key M (4000, -1)
  obtain ⟨a, ha⟩ := List.exists_mem_of_ne_nil M hne
  have hga := hg a ha
  unfold goodD at hga
  refine ⟨h2, ?_, h4, ?_⟩
  · rcases h5 with h5 | h5
    · have := h2 a ha
      exact ⟨a, ha, by unfold fl; dsimp only at h5; omega⟩
    · exact h5
  · rcases h6 with h6 | h6
    · have := h4 a ha
      dsimp only at h6; omega
    · exact h6
def gapV (M : List Postmark) : Nat := cntN (fun i => !covB (M.map pr) ((fl M).1.toNat + i)) ((fl M).2.toNat + 1 - (fl M).1.toNat)
def gapRes (l : List Postmark) (town : ByteArray) : Int × Bool := if (ofTown l town).isEmpty = true then (0, false) else ((gapV (ofTown l town) : Int), true)
def swI (s : Int × Int) (x : Postmark) : Int × Int := (s.1 + max (x.first - s.2 - 1) 0, max s.2 x.last)
theorem sw_eq : ∀ (r : List Postmark) (g R : Nat), (∀ x ∈ r, goodD x) → r.foldl swI ((g : Int), (R : Int)) = (((sweep g R (r.map pr)).1 : Int), ((sweep g R (r.map pr)).2 : Int)) := by
  intro r
  induction r with
  | nil => intro g R _; rfl
  | cons a r ih =>
    intro g R hg
    have ha := hg a List.mem_cons_self
    unfold goodD at ha
    rw [List.foldl_cons, List.map_cons]
    simp only [sweep, pr]
    rw [← ih _ _ (fun x hx => hg x (List.mem_cons_of_mem _ hx))]
    congr 1
    unfold swI
    dsimp only
    rw [Prod.mk.injEq]; omega
theorem gap_sorted {M : List Postmark} (hg : ∀ x ∈ M, goodD x) {a : Postmark} {r : List Postmark} (hp : (a :: r).Perm M) (hs : List.Pairwise (fun x y : Postmark => x.first ≤ y.first) (a :: r)) : (r.foldl swI (0, a.last)).1 = (gapV M : Int) := by
  have hm : ∀ x, x ∈ a :: r ↔ x ∈ M := fun x => hp.mem_iff
  have haM := (hm a).1 List.mem_cons_self
  have hga := hg a haM
  obtain ⟨f1, ⟨u, hu, hu2⟩, f3, ⟨v, hv, hv2⟩⟩ := fl_facts hg (fun e => by rw [e] at haM; simp at haM)
  have hgr : ∀ x ∈ r, goodD x := fun x hx => hg x ((hm x).1 (List.mem_cons_of_mem _ hx))
  have hfirst : (fl M).1 = a.first := by
    have h1 := f1 a haM
    rcases List.mem_cons.1 ((hm u).2 hu) with rfl | h
    · omega
    · have := (List.pairwise_cons.1 hs).1 u h; omega
  unfold goodD at hga hgr
  have e0 : ((0 : Int), a.last) = (((0 : Nat) : Int), ((a.last.toNat : Nat) : Int)) := by rw [Prod.mk.injEq]; omega
  rw [e0, sw_eq r 0 a.last.toNat hgr]
  obtain ⟨s1, s2, s3⟩ := sweep_is a.first.toNat (r.map pr) [pr a] 0 a.last.toNat (by
      intro p hp; rw [List.mem_singleton] at hp; subst hp; unfold pr; dsimp only; omega)
    ⟨pr a, List.mem_singleton.2 rfl, rfl⟩ (by
      intro p hp q hq
      rw [List.mem_singleton] at hp; subst hp
      obtain ⟨x, hx, rfl⟩ := List.mem_map.1 hq
      have h1 := (List.pairwise_cons.1 hs).1 x hx
      have h2 := hgr x hx
      unfold pr; dsimp only; omega) (by
      rw [List.pairwise_map]
      have h0 := (List.pairwise_cons.1 hs).2
      exact h0.imp (fun {x y} h => by unfold pr; dsimp only; omega)) (by
      intro p hp
      obtain ⟨x, hx, rfl⟩ := List.mem_map.1 hp
      have h2 := hgr x hx
      unfold pr; dsimp only; omega) (by
      rw [cntN_none]
      intro i hi
      unfold covB pr
      simp; omega)
  have hlast : (sweep 0 a.last.toNat (r.map pr)).2 = (fl M).2.toNat := by
    have hall : ∀ x ∈ M, x.last.toNat ≤ (sweep 0 a.last.toNat (r.map pr)).2 := by
      intro x hx
      refine s2 (pr x) ?_
      rcases List.mem_cons.1 ((hm x).2 hx) with rfl | h
      · exact List.mem_append_left _ (List.mem_singleton.2 rfl)
      · exact List.mem_append_right _ (List.mem_map.2 ⟨x, h, rfl⟩)
    obtain ⟨q, hq, hq2⟩ := s3
    have hex : ∃ x ∈ M, pr x = q := by
      rcases List.mem_append.1 hq with h | h
      · rw [List.mem_singleton] at h; exact ⟨a, haM, h.symm⟩
      · obtain ⟨x, hx, rfl⟩ := List.mem_map.1 h
        exact ⟨x, (hm x).1 (List.mem_cons_of_mem _ hx), rfl⟩
    obtain ⟨x, hx, rfl⟩ := hex
    have h1 := f3 x hx
    have h2 := hall v hv
    have hq3 : (pr x).2 = x.last.toNat := rfl
    rw [hq3] at hq2
    omega
  have hcov : ∀ d, covB ([pr a] ++ r.map pr) d = covB (M.map pr) d := fun d => covB_perm (hp.map pr) d
  rw [s1]
  dsimp only
  unfold gapV
  rw [hlast, hfirst, cntN_congr (g := fun i => !covB (M.map pr) (a.first.toNat + i)) (fun i _ => by show (!covB _ _) = (!covB _ _); rw [hcov])]
theorem gap_impl (l : List Postmark) (hf : ∀ s ∈ l, s.fits) (town : ByteArray) (fuel : Nat) (hfu : 100 ≤ fuel) : GiGapBetween.P fuel l town = some (gapRes l town) := by
  have hlen := ofTown_len l town
  have hgood : ∀ x ∈ ofTown l town, goodD x := by
    intro x hx
    have h := okPm_of (ofTown_mem hx).2.1
    unfold goodD; omega
  simp only [GiGapBetween.P, marksOf_eq l hf town fuel hfu, Option.bind_some, letK, iteK_if, gapRes]
  cases hM : ofTown l town with
  | nil => simp
  | cons y ys =>
    rw [hM] at hlen hgood
    have hpm := GxSlicesSortFuncLoopExampleG01062ImplPostmarkLoopExampleG01062ImplPostmarkiGapBetween1.sortF_perm (y :: ys)
    have hst := GxSlicesSortFuncLoopExampleG01062ImplPostmarkLoopExampleG01062ImplPostmarkiGapBetween1.sortF_sorted (y :: ys)
    have hsl := GxSlicesSortFuncLoopExampleG01062ImplPostmarkLoopExampleG01062ImplPostmarkiGapBetween1.sortF_len (y :: ys)
    obtain ⟨m, hm⟩ : ∃ m, GxSlicesSortFuncLoopExampleG01062ImplPostmarkLoopExampleG01062ImplPostmarkiGapBetween1.sortF (y :: ys) = m := ⟨_, rfl⟩
    rw [hm] at hpm hst hsl
    cases m with
    | nil => simp at hsl
    | cons a r =>
      have hP : GxSlicesSortFuncLoopExampleG01062ImplPostmarkLoopExampleG01062ImplPostmarkiGapBetween1.P (y :: ys) = some (a :: r) := by
        unfold GxSlicesSortFuncLoopExampleG01062ImplPostmarkLoopExampleG01062ImplPostmarkiGapBetween1.P
        rw [if_pos ⟨by simp, hlen⟩, hm]
      have hi0 : idx (a :: r) 0 = some a := rfl
      have hgm : ∀ x ∈ a :: r, goodD x := fun x hx => hgood x (hpm.mem_iff.1 hx)
      have hga := hgm a List.mem_cons_self
      unfold goodD at hga
      have hr12 : r.length ≤ 12 := by have := hpm.length_eq; simp only [List.length_cons] at this hlen; omega
      have key := gap_sorted hgood hpm hst
      have hnz : ¬ ((y :: ys).length : Int) = 0 := by simp; omega
      rw [if_neg (by simpa using hnz)]
      simp only [hP, hi0, Option.bind_some, unPostmark]
      rw [guardK_pos (by simp; omega), show List.drop (Int.toNat 1) (a :: r) = r from rfl]
      rw [fold_cnt (g := swI) (J := fun s => 0 ≤ s.1 ∧ s.1 ≤ s.2 ∧ 0 ≤ s.2 ∧ s.2 ≤ 4000)]
      · obtain ⟨⟨u, v⟩, huv⟩ : ∃ z, r.foldl swI (0, a.last) = z := ⟨_, rfl⟩
        rw [huv] at key ⊢
        dsimp only at key
        simp only [GiGapBetween.e0, unp2, key]
        simp
      · rintro k x ⟨u, v⟩ nx hx ⟨j1, j2, j3, j4⟩
        have hgx := hgm x (List.mem_cons_of_mem _ (List.mem_of_getElem? hx))
        unfold goodD at hgx
        dsimp only at j1 j2 j3 j4
        have w1 := wrap_in (x := x.first - v) (by omega) (by omega)
        have w2 := wrap_in (x := x.first - v - 1) (by omega) (by omega)
        have w3 := wrap_in (x := u + max (x.first - v - 1) 0) (by omega) (by omega)
        refine ⟨?_, ?_⟩
        · simp only [GiGapBetween.l0, unp2, letK, idx_nat, hx, Option.bind_some, unPostmark, w1, w2, w3, appK, swI]
        · unfold swI; dsimp only; omega
      · dsimp only; omega
theorem foldl_or {α : Type} (p : α → Bool) : ∀ (l : List α) (b : Bool), l.foldl (fun s x => s || p x) b = (b || l.any p) := by
  intro l
  induction l with
  | nil => intro b; simp
  | cons a l ih => intro b; rw [List.foldl_cons, ih, List.any_cons, Bool.or_assoc]
theorem cov_any {l : List Postmark} (hok : ∀ x ∈ l, okPm x = true) (town : ByteArray) (d : Nat) : (l.any fun x => ofT town x && usedB (d : Int) x) = covB ((l.filter (ofT town)).map pr) d := by
  unfold covB
  rw [Bool.eq_iff_iff, List.any_eq_true, List.any_eq_true]
  constructor
  · rintro ⟨x, hx, hp⟩
    simp only [Bool.and_eq_true] at hp
    have h := okPm_of (hok x hx)
    have hu := inB_of hp.2
    exact ⟨pr x, List.mem_map.2 ⟨x, List.mem_filter.2 ⟨hx, hp.1⟩, rfl⟩, by unfold pr; simp; omega⟩
  · rintro ⟨q, hq, hp⟩
    obtain ⟨x, hx, rfl⟩ := List.mem_map.1 hq
    rw [List.mem_filter] at hx
    have h := okPm_of (hok x hx.1)
    refine ⟨x, hx.1, ?_⟩
    unfold pr at hp
    simp only [Bool.and_eq_true, decide_eq_true_eq] at hp
    rw [hx.2, Bool.true_and]
    unfold usedB inB
    simp; omega
theorem gap_spec (fuel : Nat) (hfu : 5000 ≤ fuel) (l : List Postmark) (hf : ∀ s ∈ l, s.fits) (hl : l.length ≤ 9223372036854775807) (town : ByteArray) (hz : town.size ≤ 9223372036854775807) : GsGapBetween.P fuel l town = some (gapRes l town) := by
  simp only [GsGapBetween.P, l11Good_eq fuel (by omega) l hf hl, l2Word_eq town hz, Option.bind_some, letK, joinK, appK, iteK_if]
  cases hc : okPms l with
  | false => simp [gapRes, ofTown, hc]
  | true =>
    cases hw : wordB town with
    | false => simp [gapRes, ofTown_word hw]
    | true =>
      have hok : ∀ x ∈ l, okPm x = true := fun x hx => pms_mem hc hx
      have hM : ofTown l town = l.filter (ofT town) := by unfold ofTown; rw [if_pos hc]
      have hgood : ∀ x ∈ ofTown l town, goodD x := by
        intro x hx
        have h := okPm_of (ofTown_mem hx).2.1
        unfold goodD; omega
      simp only [Bool.not_true, Bool.false_eq_true, if_false]
      rw [fold_cnt (g := fun s x => if ofT town x = true then flStep s x else s) (J := fun _ => True)]
      · have hfold : l.foldl (fun s x => if ofT town x = true then flStep s x else s) (4000, -1) = fl (ofTown l town) := by
          rw [hM]; unfold fl; rw [List.foldl_filter]
        rw [hfold]
        simp only [GsGapBetween.e0, unp2, letK, iteK_if, gapRes]
        cases hMM : ofTown l town with
        | nil => simp [fl]
        | cons y ys =>
          rw [← hMM]
          have hne : ofTown l town ≠ [] := by rw [hMM]; simp
          obtain ⟨f1, ⟨u, hu, hu2⟩, f3, ⟨v, hv, hv2⟩⟩ := fl_facts hgood hne
          have gu := hgood u hu
          have gv := hgood v hv
          unfold goodD at gu gv
          have hge : ¬ (fl (ofTown l town)).2 < 0 := by omega
          have hle := f3 u hu
          rw [if_neg (by simpa using hge)]
          have hemp : (ofTown l town).isEmpty = false := by rw [hMM]; rfl
          rw [hemp]
          simp only [Bool.false_eq_true, if_false]
          refine lp_is (n := (fl (ofTown l town)).2.toNat + 1 - (fl (ofTown l town)).1.toNat) _ (fun k (s : Int × Int) => s = ((cntN (fun i => !covB ((ofTown l town).map pr) ((fl (ofTown l town)).1.toNat + i)) k : Int), (fl (ofTown l town)).1 + (k : Int))) ?_ ?_ fuel 0 _ (by omega) (by omega) (by simp [cntN])
          · rintro k s nx hk rfl hn
            have hcl := cntN_le (fun i => !covB ((ofTown l town).map pr) ((fl (ofTown l town)).1.toNat + i)) k
            have w1 := wrap_in (x := (fl (ofTown l town)).1 + (k : Int) + 1) (by omega) (by omega)
            have w2 := wrap_in (x := (cntN (fun i => !covB ((ofTown l town).map pr) ((fl (ofTown l town)).1.toNat + i)) k : Int) + 1) (by omega) (by omega)
            have hday : (fl (ofTown l town)).1 + (k : Int) = (((fl (ofTown l town)).1.toNat + k : Nat) : Int) := by omega
            simp only [GsGapBetween.l1, unp2, letK, iteK_if]
            rw [if_pos (by simp; omega)]
            rw [fold_cnt (g := fun s x => s || (ofT town x && usedB ((fl (ofTown l town)).1 + (k : Int)) x)) (J := fun _ => True)]
            · rw [foldl_or, Bool.false_or, hday, cov_any hok, ← hM, ← hday]
              simp only [GsGapBetween.e2, letK, iteK_if, w1, w2, appK]
              have hcs := cntN_succ (fun i => !covB ((ofTown l town).map pr) ((fl (ofTown l town)).1.toNat + i)) k
              cases hcv : covB ((ofTown l town).map pr) ((fl (ofTown l town)).1.toNat + k) with
              | true =>
                simp only [Bool.not_true, Bool.false_eq_true, if_false]
                refine hn _ ?_
                rw [hcs]
                simp only [hcv, Bool.not_true, Bool.false_eq_true, if_false]
                rw [Prod.mk.injEq]; omega
              | false =>
                simp only [Bool.not_false, if_true]
                refine hn _ ?_
                rw [hcs]
                simp only [hcv, Bool.not_false, if_true]
                rw [Prod.mk.injEq]; omega
            · intro k2 x s nx2 hx _
              refine ⟨?_, trivial⟩
              simp only [GsGapBetween.l2, letK, joinK, appK, iteK_if, idx_nat, hx, Option.bind_some, unPostmark, used_spec, eq_list]
              have ho : decide (x.town = town) = ofT town x := rfl
              rw [ho]
              cases s <;> cases ofT town x <;> simp
            · trivial
          · rintro s nx rfl
            simp only [GsGapBetween.l1, unp2, letK, iteK_if, appK, GsGapBetween.e1]
            rw [if_neg (by simp; omega)]
            rfl
      · intro k x s nx hx _
        refine ⟨?_, trivial⟩
        obtain ⟨u, v⟩ := s
        simp only [GsGapBetween.l0, unp2, letK, appK, iteK_if, idx_nat, hx, Option.bind_some, unPostmark, least_eq, Go.Proofs.Ytgimcnpkngpmiaa.Q11Extend.most_eq, eq_list]
        have ho : decide (x.town = town) = ofT town x := rfl
        rw [ho]
        cases ofT town x <;> simp [flStep]
      · trivial
end Go.Proofs.Ytgimcnpkngpmiaa.Q11Gap

/- Chapter 11: postmarks: the plain functions of the program and of the reference agree, and the laws answer true. (QL11Gap) No condition but those of each theorem. -/
namespace Go.Proofs.Ytgimcnpkngpmiaa.QL11Gap
set_option linter.unusedVariables false
set_option linter.unusedSimpArgs false
open Go.RowKit
open Go.Proofs.Ytgimcnpkngpmiaa.GoP Go.Proofs.Ytgimcnpkngpmiaa.PlainStamp Go.Proofs.Ytgimcnpkngpmiaa.QBase Go.Proofs.Ytgimcnpkngpmiaa.Q11Gap Go.Proofs.Ytgimcnpkngpmiaa.QLoop Go.Proofs.Ytgimcnpkngpmiaa.PPostmark Go.Proofs.Ytgimcnpkngpmiaa.QHPostmarkE

theorem law_gap (fuel : Nat) (hfu : 5000 ≤ fuel) (l : List Postmark) (town : ByteArray) (hf : ∀ s ∈ l, s.fits) (hl : l.length ≤ 9223372036854775807) : GlFnExactGapBetween.P fuel l town = some true := by
  obtain ⟨v, hv, hn⟩ := szS l hf hl
  simp only [GlFnExactGapBetween.P, hv, Option.bind_some, letK, iteK_if]
  by_cases hb0 : (1048576 : Int) < (town.size : Int)
  · rw [if_pos (by simpa using hb0)]
  · rw [if_neg (by simpa using hb0)]
    by_cases hb : v < 0
    · rw [if_pos (by simp; omega)]
    · rw [if_neg (by simp; omega)]
      have hz : town.size ≤ 9223372036854775807 := by omega
      obtain ⟨⟨a, b⟩, hr⟩ : ∃ z, z = gapRes l town := ⟨_, rfl⟩
      simp [toS l (hn (by omega)), gap_spec fuel hfu l hf hl town hz, gap_impl l hf town fuel (by omega), ← hr, bind2, joinK, appK, iteK_if, eqS]
end Go.Proofs.Ytgimcnpkngpmiaa.QL11Gap

