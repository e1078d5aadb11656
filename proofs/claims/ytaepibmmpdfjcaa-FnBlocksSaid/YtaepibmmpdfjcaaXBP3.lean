/- Texts on which the proofs of several laws stand, one behind the other (3 of 9). No condition of their own. -/
import Derived.Test.YtaepibmmpdfjcaaChecked
import Derived.Test.YtaepibmmpdfjcaaXBP1
import Derived.Test.YtaepibmmpdfjcaaXBP2
import Derived.WalkKit
import Derived.WalkSpells
import Derived.WalkLawsBesides
import Derived.BigQuiet
import Derived.OwnWalk
import Derived.Deep.LoopGhost
import Derived.Deep.QuietTactic
import Derived.IntWalk
import Derived.Lib.QuietBelow
import Derived.Deep.RegionHeld3
/- (*loop.example/g01062/spec.l1Cur).plateSheet as a plain function, and the contract of the program's: where the plain one has an answer, the program has it. Conditions: slices read as lists. -/
namespace Go.Proofs.Ytaepibmmpdfjcaa.GsL1CurPlateSheet
set_option linter.unusedVariables false
set_option linter.unusedSimpArgs false
open Go.RowKit
open Go.Proofs.Ytaepibmmpdfjcaa.Rowed Go.Proofs.Ytaepibmmpdfjcaa.Turn Go.Proofs.Ytaepibmmpdfjcaa.Aid Go.Proofs.Ytaepibmmpdfjcaa.GoP Go.Proofs.Ytaepibmmpdfjcaa.GoM

def l0 (fuel : Nat) (s : (List ByteArray) × Int × Go.Proofs.Ytaepibmmpdfjcaa.GoC.Tape) (nx0 bk0 : (List ByteArray) × Int × Go.Proofs.Ytaepibmmpdfjcaa.GoC.Tape → Option ((List ByteArray) × Go.Proofs.Ytaepibmmpdfjcaa.GoC.Tape)) : Option ((List ByteArray) × Go.Proofs.Ytaepibmmpdfjcaa.GoC.Tape) :=
  unp3 s fun sheet_3l0 n_4l0 c0_c0l0 =>
  letK (decide (0 < n_4l0)) fun (t_13 : Bool) =>
  iteK t_13
  (bind2 (Go.Proofs.Ytaepibmmpdfjcaa.GsL1CurBlock.P fuel c0_c0l0) fun (t_15 : Go.Proofs.Ytaepibmmpdfjcaa.PBlock.Block) (t_15_tp : Go.Proofs.Ytaepibmmpdfjcaa.GoC.Tape) =>
  unBlock t_15 fun (t_15_rows : (List ByteArray)) =>
  bind2 (Go.Proofs.Ytaepibmmpdfjcaa.GsL1CurPick.P t_15_tp 3) fun (t_21 : Int) (t_21_tp : Go.Proofs.Ytaepibmmpdfjcaa.GoC.Tape) =>
  bind2 (Go.Proofs.Ytaepibmmpdfjcaa.GsL1CurPick.P t_21_tp 3) fun (t_23 : Int) (t_23_tp : Go.Proofs.Ytaepibmmpdfjcaa.GoC.Tape) =>
  bind2 (Go.Proofs.Ytaepibmmpdfjcaa.GsLayBlock.P fuel sheet_3l0 t_15_rows t_21 t_23) fun (t_24a : (List ByteArray)) (t_24b : Bool) =>
  iteK t_24b
  (letK (IntKind.i64.wrap (n_4l0 - 1)) fun (t_34 : Int) =>
  appK nx0 (t_24a, t_34, t_23_tp))
  (letK (IntKind.i64.wrap (n_4l0 - 1)) fun (t_34 : Int) =>
  appK nx0 (sheet_3l0, t_34, t_23_tp)))
  (appK bk0 (sheet_3l0, n_4l0, c0_c0l0))

def e0  (s : (List ByteArray) × Int × Go.Proofs.Ytaepibmmpdfjcaa.GoC.Tape) : Option ((List ByteArray) × Go.Proofs.Ytaepibmmpdfjcaa.GoC.Tape) :=
  unp3 s fun sheet_3l0 n_4l0 c0_c0l0 =>
  bind2 (Go.Proofs.Ytaepibmmpdfjcaa.GsL1CurPick.P c0_c0l0 32) fun (t_37 : Int) (t_37_tp : Go.Proofs.Ytaepibmmpdfjcaa.GoC.Tape) =>
  letK (t_37 == 0) fun (t_38 : Bool) =>
  iteK t_38
  (letK ([(⟨#[]⟩ : ByteArray), (⟨#[97, 97, 97, 97, 97, 97]⟩ : ByteArray), (⟨#[46]⟩ : ByteArray)]) fun (t_42 : (List ByteArray)) =>
  bind2 (Go.Proofs.Ytaepibmmpdfjcaa.GsL1CurOf.P t_37_tp t_42) fun (t_43 : ByteArray) (t_43_tp : Go.Proofs.Ytaepibmmpdfjcaa.GoC.Tape) =>
  guardK (sheet_3l0.length ≤ 1099511627776) <|
  letK (sheet_3l0 ++ [t_43]) fun (t_45 : (List ByteArray)) =>
  some (t_45, t_43_tp))
  (letK (t_37 == 1) fun (t_47 : Bool) =>
  iteK t_47
  (some (([] : List ByteArray), t_37_tp))
  (some (sheet_3l0, t_37_tp)))

def P (fuel : Nat) (c : Go.Proofs.Ytaepibmmpdfjcaa.GoC.Tape) : Option ((List ByteArray) × Go.Proofs.Ytaepibmmpdfjcaa.GoC.Tape) :=
  bind2 (Go.Proofs.Ytaepibmmpdfjcaa.GsL1CurPick.P c 5) fun (t_2 : Int) (t_2_tp : Go.Proofs.Ytaepibmmpdfjcaa.GoC.Tape) =>
  letK (IntKind.i64.wrap (1 + t_2)) fun (t_3 : Int) =>
  bind2 (Go.Proofs.Ytaepibmmpdfjcaa.GsL1CurPick.P t_2_tp 5) fun (t_5 : Int) (t_5_tp : Go.Proofs.Ytaepibmmpdfjcaa.GoC.Tape) =>
  letK (IntKind.i64.wrap (1 + t_5)) fun (t_6 : Int) =>
  Option.bind (Go.Proofs.Ytaepibmmpdfjcaa.GsL4Blank.P fuel t_3 t_6) fun (t_7 : (List ByteArray)) =>
  bind2 (Go.Proofs.Ytaepibmmpdfjcaa.GsL1CurPick.P t_5_tp 4) fun (t_10 : Int) (t_10_tp : Go.Proofs.Ytaepibmmpdfjcaa.GoC.Tape) =>
  loopK (l0 fuel) fuel (t_7, t_10, t_10_tp) (e0 )

set_option maxRecDepth 100000 in
set_option maxHeartbeats 2000000 in
theorem C (fuel : Nat) (c : Go.Proofs.Ytaepibmmpdfjcaa.GoC.Tape)   (g0 : Nat) (Ac0 : Option Addr) (cc0 : Nat) (bc0 : Nat) (w : World)   (K0 : Hid (Go.Proofs.Ytaepibmmpdfjcaa.GoC.CurIs w bc0 g0 Ac0 cc0 c)) {r : (List ByteArray)} {t_ : Go.Proofs.Ytaepibmmpdfjcaa.GoC.Tape} (H : Hid (P fuel c = some (r, t_))) :
    Calls Try.prog 49 #[.pointer (some ⟨g0, 0, none⟩)] w (fun e w' => ∃ A_r c_r, e = .returned (.slice A_r r.length c_r) ∧ w'.ownsRow w.heap.size 9 1 (.slice A_r r.length c_r) r.length (r.map Value.string) ∧ Go.Proofs.Ytaepibmmpdfjcaa.GoC.CurIs w' bc0 g0 Ac0 cc0 t_ ∧ w.grownBy w' (Value.slice (some ⟨g0, 0, none⟩) 1 1).ownBlock) := by
  have HB := Lib.hid (Aid.grown_refl w (Value.slice (some ⟨g0, 0, none⟩) 1 1).ownBlock)
  unfold P at H
  have L0 : bc0 ≤ w.heap.size := by have := Go.Proofs.Ytaepibmmpdfjcaa.GoC.cur_lt K0.out; omega
  obtain ⟨i0_9, hi_9, hz0_9, hz1_9, hz2_9⟩ := Aid.info_parts (P := Try.prog) (T := 9) (z := .string ByteArray.empty) (s := 1) (b := 16) (by kernel_rfl)
  go_enter Try.func49, Try.ntmps49
  replace H := bind2_hid H
  obtain ⟨t_2, t_2_tp, qt_2, H⟩ := H
  go_wp2_with fail
  go_at_call 59
  refine (Go.Proofs.Ytaepibmmpdfjcaa.GsL1CurPick.C (c) (5) (g0) (Ac0) (cc0) (bc0) _   K0 qt_2).mono ?_
  rintro e_t_2 wt_2 ⟨rfl, kt_2, gt_2⟩
  have Kt_2 := Lib.hid kt_2
  have Gt_2 : Hid (w.grownBy wt_2 (Value.slice (some ⟨g0, 0, none⟩) 1 1).ownBlock) := Lib.hid gt_2
  clear kt_2 gt_2
  have HBwt_2 := Lib.hid (Aid.grown_tr HB.out Gt_2.out)
  clear K0 Gt_2
  replace H := let_hid H
  obtain ⟨t_3, ht_3, H⟩ := H
  replace H := bind2_hid H
  obtain ⟨t_5, t_5_tp, qt_5, H⟩ := H
  go_wp2_with fail
  go_at_call 59
  refine (Go.Proofs.Ytaepibmmpdfjcaa.GsL1CurPick.C (t_2_tp) (5) (g0) (Ac0) (cc0) (bc0) _   Kt_2 qt_5).mono ?_
  rintro e_t_5 wt_5 ⟨rfl, kt_5, gt_5⟩
  have Kt_5 := Lib.hid kt_5
  have Gt_5 : Hid (wt_2.grownBy wt_5 (Value.slice (some ⟨g0, 0, none⟩) 1 1).ownBlock) := Lib.hid gt_5
  clear kt_5 gt_5
  have HBwt_5 := Lib.hid (Aid.grown_tr HBwt_2.out Gt_5.out)
  clear Kt_2 Gt_5
  replace H := let_hid H
  obtain ⟨t_6, ht_6, H⟩ := H
  replace H := bind_hid H
  obtain ⟨t_7, qt_7, H⟩ := H
  go_wp2_with fail
  go_at_call 86
  refine (Go.Proofs.Ytaepibmmpdfjcaa.GsL4Blank.C fuel (t_3) (t_6)  _    qt_7).mono ?_
  rintro e_t_7 wt_7 ⟨At_7, ct_7, rfl, ot_7, bt_7⟩
  have Dt_7_c0 := Lib.hid (Go.Proofs.Ytaepibmmpdfjcaa.GoC.apart_callcur ot_7 Kt_5.out)
  have Ot_7 := Lib.hid (own_lower ot_7 HBwt_5.out.size)
  clear ot_7
  have HBwt_7 := Lib.hid (grown_below HBwt_5.out bt_7)
  replace Kt_5 := Lib.hid (Go.Proofs.Ytaepibmmpdfjcaa.GoC.cur_below Kt_5.out bt_7)
  clear bt_7
  replace H := bind2_hid H
  obtain ⟨t_10, t_10_tp, qt_10, H⟩ := H
  go_wp2_with fail
  go_at_call 59
  refine (Go.Proofs.Ytaepibmmpdfjcaa.GsL1CurPick.C (t_5_tp) (4) (g0) (Ac0) (cc0) (bc0) _   Kt_5 qt_10).mono ?_
  rintro e_t_10 wt_10 ⟨rfl, kt_10, gt_10⟩
  have Kt_10 := Lib.hid kt_10
  have Gt_10 : Hid (wt_7.grownBy wt_10 (Value.slice (some ⟨g0, 0, none⟩) 1 1).ownBlock) := Lib.hid gt_10
  clear kt_10 gt_10
  have HBwt_10 := Lib.hid (Aid.grown_tr HBwt_7.out Gt_10.out)
  replace Ot_7 := Lib.hid (own_other Ot_7.out Gt_10.out (Apart.symm Dt_7_c0.out))
  clear Kt_5 Gt_10
  go_wp2_with fail
  go_loopg [3, 4] (fuel) (fun m_ v3_ v4_ wr => ∃ (sheet_3l0 : (List ByteArray)) (n_4l0 : Int) (c0_c0l0 : Go.Proofs.Ytaepibmmpdfjcaa.GoC.Tape) (Asheet_3l0 : Option Addr) (csheet_3l0 : Nat), v3_ = .slice Asheet_3l0 sheet_3l0.length csheet_3l0 ∧ v4_ = .int .i64 n_4l0 ∧ Hid (loopK (l0 fuel) m_ (sheet_3l0, n_4l0, c0_c0l0) (e0 ) = some (r, t_)) ∧ Hid (w.grownBy wr (Value.slice (some ⟨g0, 0, none⟩) 1 1).ownBlock) ∧ Hid (wr.ownsRow w.heap.size 9 1 (.slice Asheet_3l0 sheet_3l0.length csheet_3l0) sheet_3l0.length (sheet_3l0.map Value.string)) ∧ Hid (Apart Asheet_3l0 (some ⟨g0, 0, none⟩)) ∧ Hid (Go.Proofs.Ytaepibmmpdfjcaa.GoC.CurIs wr bc0 g0 Ac0 cc0 c0_c0l0))
  case atStart => exact ⟨_, _, _, _, _, rfl, rfl, H, HBwt_10, Ot_7, Lib.hid Dt_7_c0.out, Kt_10⟩
  case round =>
    obtain ⟨sheet_3l0, n_4l0, c0_c0l0, Asheet_3l0, csheet_3l0, rfl, rfl, H, HBwr0, Osheet_3l0, Dsheet_3l0_c0, Kl0_0⟩ := hrel
    rename World => wr0
    cases gk with
    | zero => exact (loop_zero H).elim
    | succ m0 =>
      replace H := loop_succ H
      unfold l0 at H
      replace H := unp3_hid H
      replace H := let_hid H
      obtain ⟨t_13, ht_13, H⟩ := H
      cases t_13 with
      | false =>
        replace H := ite_f H
        replace H := app_hid H
        unfold e0 at H
        replace H := unp3_hid H
        replace H := bind2_hid H
        obtain ⟨t_37, t_37_tp, qt_37, H⟩ := H
        go_wp2_with fail
        go_at_call 59
        refine (Go.Proofs.Ytaepibmmpdfjcaa.GsL1CurPick.C (c0_c0l0) (32) (g0) (Ac0) (cc0) (bc0) _   Kl0_0 qt_37).mono ?_
        rintro e_t_37 wt_37 ⟨rfl, kt_37, gt_37⟩
        have Kt_37 := Lib.hid kt_37
        have Gt_37 : Hid (wr0.grownBy wt_37 (Value.slice (some ⟨g0, 0, none⟩) 1 1).ownBlock) := Lib.hid gt_37
        clear kt_37 gt_37
        have HBwt_37 := Lib.hid (Aid.grown_tr HBwr0.out Gt_37.out)
        replace Osheet_3l0 := Lib.hid (own_other Osheet_3l0.out Gt_37.out (Apart.symm Dsheet_3l0_c0.out))
        clear Kl0_0 Gt_37
        replace H := let_hid H
        obtain ⟨t_38, ht_38, H⟩ := H
        cases t_38 with
        | false =>
          replace H := ite_f H
          replace H := let_hid H
          obtain ⟨t_47, ht_47, H⟩ := H
          cases t_47 with
          | false =>
            replace H := ite_f H
            cases ret_hid H
            go_wp2_with fail
            go_ret
            exact ⟨Asheet_3l0, csheet_3l0, rfl, Osheet_3l0.out, Kt_37.out, HBwt_37.out⟩
          | true =>
            replace H := ite_t H
            obtain ⟨w_t_49, hw_t_49⟩ : ∃ x, wt_37.alloc (.cells #[] 9) = x := ⟨_, rfl⟩
            have bw_t_49 : Below wt_37.heap.size wt_37 w_t_49 := by rw [← hw_t_49]; exact (Below.refl _ _).alloc (Nat.le_refl _) _
            have Ot_49 : Hid (w_t_49.ownsRow w.heap.size 9 1 (.slice (some ⟨wt_37.heap.size, 0, none⟩) 0 0) 0 []) := Lib.hid (by rw [← hw_t_49]; exact own_empty HBwt_37.out.size)
            have Dt_49_sheet_3l0 := Lib.hid (apart_fresh Osheet_3l0.out)
            have Dt_49_c0 := Lib.hid (Go.Proofs.Ytaepibmmpdfjcaa.GoC.apart_cur Kt_37.out)
            have HBw_t_49 := Lib.hid (grown_below HBwt_37.out bw_t_49)
            replace Osheet_3l0 := Lib.hid (own_below Osheet_3l0.out bw_t_49)
            replace Kt_37 := Lib.hid (Go.Proofs.Ytaepibmmpdfjcaa.GoC.cur_below Kt_37.out bw_t_49)
            clear bw_t_49
            cases ret_hid H
            go_wp2_with fail
            go_ret
            exact ⟨(some ⟨wt_37.heap.size, 0, none⟩), 0, rfl, Ot_49.out, Kt_37.out, HBw_t_49.out⟩
        | true =>
          replace H := ite_t H
          replace H := let_hid H
          obtain ⟨t_42, ht_42, H⟩ := H
          obtain ⟨w_t_42, hw_t_42⟩ : ∃ x, wt_37.alloc (.cells #[.string (⟨#[]⟩ : ByteArray), .string (⟨#[97, 97, 97, 97, 97, 97]⟩ : ByteArray), .string (⟨#[46]⟩ : ByteArray)] 9) = x := ⟨_, rfl⟩
          have bw_t_42 : Below wt_37.heap.size wt_37 w_t_42 := by rw [← hw_t_42]; exact (Below.refl _ _).alloc (Nat.le_refl _) _
          have hs_t_42 := HBwt_37.out.size
          have nt_42 : t_42.length = 3 := by rw [← ht_42]; rfl
          have Ot_42 : Hid (w_t_42.ownsRow w.heap.size 9 1 (.slice (some ⟨wt_37.heap.size, 0, none⟩) 3 3) 3 (t_42.map Value.string)) := by
            rw [← hw_t_42, ← ht_42]
            have e_ : ([.string (⟨#[]⟩ : ByteArray), .string (⟨#[97, 97, 97, 97, 97, 97]⟩ : ByteArray), .string (⟨#[46]⟩ : ByteArray)] : List Value) = (([(⟨#[]⟩ : ByteArray), (⟨#[97, 97, 97, 97, 97, 97]⟩ : ByteArray), (⟨#[46]⟩ : ByteArray)] : List ByteArray).map Value.string) := rfl
            exact Lib.hid (own_laid (n := 3) hs_t_42 e_ rfl (by unfold maxLen; omega))
          clear hs_t_42
          have hht_42 := Lib.hid ht_42
          clear ht_42
          replace nt_42 := Lib.hid nt_42
          have Dt_42_sheet_3l0 := Lib.hid (apart_fresh Osheet_3l0.out)
          have Dt_42_c0 := Lib.hid (Go.Proofs.Ytaepibmmpdfjcaa.GoC.apart_cur Kt_37.out)
          have HBw_t_42 := Lib.hid (grown_below HBwt_37.out bw_t_42)
          replace Osheet_3l0 := Lib.hid (own_below Osheet_3l0.out bw_t_42)
          replace Kt_37 := Lib.hid (Go.Proofs.Ytaepibmmpdfjcaa.GoC.cur_below Kt_37.out bw_t_42)
          clear bw_t_42
          replace H := bind2_hid H
          obtain ⟨t_43, t_43_tp, qt_43, H⟩ := H
          go_wp2_with fail
          have hc0_ := nt_42.out
          have Oct_43_1 := Lib.hid (own_len hc0_ Ot_42.out)
          have con_ := Go.Proofs.Ytaepibmmpdfjcaa.GsL1CurOf.C (t_37_tp) (t_42) (some ⟨wt_37.heap.size, 0, none⟩) 3 (g0) (Ac0) (cc0) (bc0) _   (Lib.hid (own_cells Oct_43_1.out)) (Lib.hid (own_max Oct_43_1.out)) Kt_37 (Lib.hid (fun _ => Dt_42_c0.out)) qt_43
          rw [hc0_] at con_
          clear hc0_ Oct_43_1
          go_at_call 87
          refine con_.mono ?_
          rintro e_t_43 wt_43 ⟨rfl, kt_43, gt_43⟩
          have Kt_43 := Lib.hid kt_43
          have Gt_43 : Hid (w_t_42.grownBy wt_43 (Value.slice (some ⟨g0, 0, none⟩) 1 1).ownBlock) := Lib.hid gt_43
          clear kt_43 gt_43
          have HBwt_43 := Lib.hid (Aid.grown_tr HBw_t_42.out Gt_43.out)
          replace Osheet_3l0 := Lib.hid (own_other Osheet_3l0.out Gt_43.out (Apart.symm Dsheet_3l0_c0.out))
          replace Ot_42 := Lib.hid (own_other Ot_42.out Gt_43.out (Apart.symm Dt_42_c0.out))
          clear Kt_37 Gt_43
          obtain ⟨w_t_44, hw_t_44⟩ : ∃ x, wt_43.alloc (.cells #[.string t_43] 9) = x := ⟨_, rfl⟩
          have bw_t_44 : Below wt_43.heap.size wt_43 w_t_44 := by rw [← hw_t_44]; exact (Below.refl _ _).alloc (Nat.le_refl _) _
          have HBw_t_44 := Lib.hid (grown_below HBwt_43.out bw_t_44)
          replace Osheet_3l0 := Lib.hid (own_below Osheet_3l0.out bw_t_44)
          replace Ot_42 := Lib.hid (own_below Ot_42.out bw_t_44)
          replace Kt_43 := Lib.hid (Go.Proofs.Ytaepibmmpdfjcaa.GoC.cur_below Kt_43.out bw_t_44)
          clear bw_t_44
          replace H := guard_hid H
          obtain ⟨hlt_45, H⟩ := H
          replace H := let_hid H
          obtain ⟨t_45, ht_45, H⟩ := H
          have hht_45 := Lib.hid ht_45
          clear ht_45
          have hst_45 := HBw_t_44.out.size
          go_wp2_with (at_builtin; refine wpList_append_own_at _ rfl _ _ 24 rfl w.heap.size 9 i0_9 (.string ByteArray.empty) 1 16 Try.underlying24 hi_9 hz0_9 hz1_9 hz2_9 rfl (by decide) _ _ _ rfl Osheet_3l0.out ⟨wt_43.heap.size, 0, none⟩ 1 1 [.string t_43] rfl rfl (news_new hw_t_44) (one_cells rfl) (by unfold maxLen; omega) (by omega) hst_45 ?_; intro vt_45 wt_45 ot_45 gt_45 zt_45 yt_45; clear zt_45; obtain ⟨qt_45, ct_45, rfl, pt_45⟩ := own_push hht_45.out (by simp) rfl ot_45; have Pt_45 := Lib.hid pt_45; have Yt_45 := Lib.hid yt_45; have Gt_45 := Lib.hid gt_45; clear ot_45 gt_45 pt_45 yt_45; refine stop_in ?_)
          refine stop_out ?_
          have HBwt_45 := Lib.hid (Go.Proofs.Ytaepibmmpdfjcaa.GoC.grown_new HBw_t_44.out Gt_45.out (Go.Proofs.Ytaepibmmpdfjcaa.GoC.own_ge Osheet_3l0.out))
          clear hst_45
          have Dt_45_c0 : Hid (Apart (some ⟨qt_45, 0, none⟩) _) := Lib.hid (apart_app Dsheet_3l0_c0.out (fun a_ ha_ => by cases ha_; exact (Go.Proofs.Ytaepibmmpdfjcaa.GoC.cur_lt Kt_43.out).2) Yt_45.out)
          have Dt_45_t_42 : Hid (Apart (some ⟨qt_45, 0, none⟩) _) := Lib.hid (apart_app (Apart.symm Dt_42_sheet_3l0.out) (fun a_ ha_ => (own_lt Ot_42.out a_ ha_).2) Yt_45.out)
          replace Ot_42 := Lib.hid (own_other Ot_42.out Gt_45.out (Apart.symm Dt_42_sheet_3l0.out))
          replace Kt_43 := Lib.hid (Go.Proofs.Ytaepibmmpdfjcaa.GoC.cur_otherO Kt_43.out Gt_45.out Dsheet_3l0_c0.out L0 Osheet_3l0.out)
          clear Osheet_3l0 Yt_45 Gt_45
          cases ret_hid H
          go_wp2_with fail
          go_ret
          exact ⟨(some ⟨qt_45, 0, none⟩), ct_45, rfl, Pt_45.out, Kt_43.out, HBwt_45.out⟩
      | true =>
        replace H := ite_t H
        replace H := bind2_hid H
        obtain ⟨t_15, t_15_tp, qt_15, H⟩ := H
        obtain ⟨t_15_rows⟩ := t_15
        replace H := unBlock_hid H
        go_wp2_with fail
        go_at_call 50
        refine (Go.Proofs.Ytaepibmmpdfjcaa.GsL1CurBlock.C fuel (c0_c0l0) (g0) (Ac0) (cc0) (bc0) _   Kl0_0 qt_15).mono ?_
        rintro e_t_15 wt_15 ⟨At_15_rows, ct_15_rows, rfl, ot_15_rows, kt_15, gt_15⟩
        have Dt_15_rows_sheet_3l0 := Lib.hid (apart_call ot_15_rows Osheet_3l0.out)
        have Dt_15_rows_c0 := Lib.hid (Go.Proofs.Ytaepibmmpdfjcaa.GoC.apart_callcur ot_15_rows Kl0_0.out)
        have Ot_15_rows := Lib.hid (own_lower ot_15_rows HBwr0.out.size)
        clear ot_15_rows
        have Kt_15 := Lib.hid kt_15
        have Gt_15 : Hid (wr0.grownBy wt_15 (Value.slice (some ⟨g0, 0, none⟩) 1 1).ownBlock) := Lib.hid gt_15
        clear kt_15 gt_15
        have HBwt_15 := Lib.hid (Aid.grown_tr HBwr0.out Gt_15.out)
        replace Osheet_3l0 := Lib.hid (own_other Osheet_3l0.out Gt_15.out (Apart.symm Dsheet_3l0_c0.out))
        clear Kl0_0 Gt_15
        obtain ⟨w_b_16, hw_b_16⟩ : ∃ x, wt_15.alloc (.cells #[.slice At_15_rows t_15_rows.length ct_15_rows] 26) = x := ⟨_, rfl⟩
        have bw_b_16 : Below wt_15.heap.size wt_15 w_b_16 := by rw [← hw_b_16]; exact (Below.refl _ _).alloc (Nat.le_refl _) _
        have Db_16_sheet_3l0 := Lib.hid (apart_fresh Osheet_3l0.out)
        have Db_16_t_15_rows := Lib.hid (apart_fresh Ot_15_rows.out)
        have Db_16_c0 := Lib.hid (Go.Proofs.Ytaepibmmpdfjcaa.GoC.apart_cur Kt_15.out)
        have HBw_b_16 := Lib.hid (grown_below HBwt_15.out bw_b_16)
        replace Osheet_3l0 := Lib.hid (own_below Osheet_3l0.out bw_b_16)
        replace Ot_15_rows := Lib.hid (own_below Ot_15_rows.out bw_b_16)
        replace Kt_15 := Lib.hid (Go.Proofs.Ytaepibmmpdfjcaa.GoC.cur_below Kt_15.out bw_b_16)
        clear bw_b_16
        have kb_16_0 : w_b_16.cell? ⟨wt_15.heap.size, 0, none⟩ = some (.slice At_15_rows t_15_rows.length ct_15_rows) := by rw [← hw_b_16]; exact box_new _ _ _ 0 _ rfl
        go_wp2_with fail
        have bd6 : Below w_b_16.heap.size w_b_16 w_b_16.drew := (Below.refl _ _).drew
        have HBw_b_16.drew := Lib.hid (grown_below HBw_b_16.out bd6)
        replace kb_16_0 := cell_below bd6 kb_16_0
        replace Osheet_3l0 := Lib.hid (own_below Osheet_3l0.out bd6)
        replace Ot_15_rows := Lib.hid (own_below Ot_15_rows.out bd6)
        replace Kt_15 := Lib.hid (Go.Proofs.Ytaepibmmpdfjcaa.GoC.cur_below Kt_15.out bd6)
        clear bd6
        replace H := bind2_hid H
        obtain ⟨t_21, t_21_tp, qt_21, H⟩ := H
        replace H := bind2_hid H
        obtain ⟨t_23, t_23_tp, qt_23, H⟩ := H
        replace H := bind2_hid H
        obtain ⟨t_24a, t_24b, qt_24, H⟩ := H
        go_region_held3 (fun w' => w'.cell? ⟨wt_15.heap.size, 0, none⟩ = some (.slice At_15_rows t_15_rows.length ct_15_rows)) (first | exact kb_16_0)
            (first
              | (go_at_call 59
                 refine (Go.Proofs.Ytaepibmmpdfjcaa.GsL1CurPick.C (t_15_tp) (3) (g0) (Ac0) (cc0) (bc0) _   Kt_15 qt_21).mono ?_
                 rintro e_t_21 wt_21 ⟨rfl, kt_21, gt_21⟩
                 have Kt_21 := Lib.hid kt_21
                 have Gt_21 : Hid (w_b_16.drew.grownBy wt_21 (Value.slice (some ⟨g0, 0, none⟩) 1 1).ownBlock) := Lib.hid gt_21
                 clear kt_21 gt_21
                 have HBwt_21 := Lib.hid (Aid.grown_tr HBw_b_16.drew.out Gt_21.out)
                 replace kb_16_0 := cell_other kb_16_0 Gt_21.out (Apart.symm Db_16_c0.out)
                 replace Osheet_3l0 := Lib.hid (own_other Osheet_3l0.out Gt_21.out (Apart.symm Dsheet_3l0_c0.out))
                 replace Ot_15_rows := Lib.hid (own_other Ot_15_rows.out Gt_21.out (Apart.symm Dt_15_rows_c0.out))
                 clear Kt_15 Gt_21
                 clear qt_21)
              | (go_at_call 59
                 refine (Go.Proofs.Ytaepibmmpdfjcaa.GsL1CurPick.C (t_21_tp) (3) (g0) (Ac0) (cc0) (bc0) _   Kt_21 qt_23).mono ?_
                 rintro e_t_23 wt_23 ⟨rfl, kt_23, gt_23⟩
                 have Kt_23 := Lib.hid kt_23
                 have Gt_23 : Hid (wt_21.grownBy wt_23 (Value.slice (some ⟨g0, 0, none⟩) 1 1).ownBlock) := Lib.hid gt_23
                 clear kt_23 gt_23
                 have HBwt_23 := Lib.hid (Aid.grown_tr HBwt_21.out Gt_23.out)
                 replace kb_16_0 := cell_other kb_16_0 Gt_23.out (Apart.symm Db_16_c0.out)
                 replace Osheet_3l0 := Lib.hid (own_other Osheet_3l0.out Gt_23.out (Apart.symm Dsheet_3l0_c0.out))
                 replace Ot_15_rows := Lib.hid (own_other Ot_15_rows.out Gt_23.out (Apart.symm Dt_15_rows_c0.out))
                 clear Kt_21 Gt_23
                 clear qt_23)
              | (go_at_call 20
                 refine (Go.Proofs.Ytaepibmmpdfjcaa.GsLayBlock.C fuel (sheet_3l0) (t_15_rows) (t_21) (t_23) Asheet_3l0 csheet_3l0 At_15_rows ct_15_rows _   (Lib.hid (own_cells Osheet_3l0.out)) (Lib.hid (own_max Osheet_3l0.out)) (Lib.hid (own_cells Ot_15_rows.out)) (Lib.hid (own_max Ot_15_rows.out)) qt_24).mono ?_
                 rintro e_t_24 wt_24 ⟨At_24a, ct_24a, rfl, ot_24a, bt_24⟩
                 have Dt_24a_sheet_3l0 := Lib.hid (apart_call ot_24a Osheet_3l0.out)
                 have Dt_24a_t_15_rows := Lib.hid (apart_call ot_24a Ot_15_rows.out)
                 have Dt_24a_b_16 := Lib.hid (apart_callbox ot_24a kb_16_0)
                 have Dt_24a_c0 := Lib.hid (Go.Proofs.Ytaepibmmpdfjcaa.GoC.apart_callcur ot_24a Kt_23.out)
                 have Ot_24a := Lib.hid (own_lower ot_24a HBwt_23.out.size)
                 clear ot_24a
                 have HBwt_24 := Lib.hid (grown_below HBwt_23.out bt_24)
                 replace kb_16_0 := cell_below bt_24 kb_16_0
                 replace Osheet_3l0 := Lib.hid (own_below Osheet_3l0.out bt_24)
                 replace Ot_15_rows := Lib.hid (own_below Ot_15_rows.out bt_24)
                 replace Kt_23 := Lib.hid (Go.Proofs.Ytaepibmmpdfjcaa.GoC.cur_below Kt_23.out bt_24)
                 clear bt_24
                 clear qt_24))
        cases t_24b with
        | false =>
          replace H := ite_f H
          replace H := let_hid H
          obtain ⟨t_34, ht_34, H⟩ := H
          replace H := app_hid H
          go_wp2_with fail
          go_roundg m0
          case measure => omega
          case rel => exact ⟨_, _, _, _, _, rfl, rfl, H, HBwt_24, Osheet_3l0, Lib.hid Dsheet_3l0_c0.out, Kt_23⟩
        | true =>
          replace H := ite_t H
          replace H := let_hid H
          obtain ⟨t_34, ht_34, H⟩ := H
          replace H := app_hid H
          go_wp2_with fail
          go_roundg m0
          case measure => omega
          case rel => exact ⟨_, _, _, _, _, rfl, rfl, H, HBwt_24, Ot_24a, Lib.hid Dt_24a_c0.out, Kt_23⟩
end Go.Proofs.Ytaepibmmpdfjcaa.GsL1CurPlateSheet

/- loop.example/g01062/spec.DrawPlacesFor as a plain function, and the contract of the program's: where the plain one has an answer, the program has it. Conditions: slices read as lists. -/
namespace Go.Proofs.Ytaepibmmpdfjcaa.GsDrawPlacesFor
set_option linter.unusedVariables false
set_option linter.unusedSimpArgs false
open Go.RowKit
open Go.Proofs.Ytaepibmmpdfjcaa.Rowed Go.Proofs.Ytaepibmmpdfjcaa.Turn Go.Proofs.Ytaepibmmpdfjcaa.Aid Go.Proofs.Ytaepibmmpdfjcaa.GoP Go.Proofs.Ytaepibmmpdfjcaa.GoM

def P (fuel : Nat) (tapes : List Int → Go.Proofs.Ytaepibmmpdfjcaa.GoC.Tape) (code : (List Int)) : Option ((List ByteArray) × Go.Proofs.Ytaepibmmpdfjcaa.PBlock.Block) :=
  letK (tapes code) fun (t_4 : Go.Proofs.Ytaepibmmpdfjcaa.GoC.Tape) =>
  bind2 (Go.Proofs.Ytaepibmmpdfjcaa.GsL1CurPlateSheet.P fuel t_4) fun (t_7 : (List ByteArray)) (t_7_tp : Go.Proofs.Ytaepibmmpdfjcaa.GoC.Tape) =>
  bind2 (Go.Proofs.Ytaepibmmpdfjcaa.GsL1CurBlock.P fuel t_7_tp) fun (t_9 : Go.Proofs.Ytaepibmmpdfjcaa.PBlock.Block) (t_9_tp : Go.Proofs.Ytaepibmmpdfjcaa.GoC.Tape) =>
  unBlock t_9 fun (t_9_rows : (List ByteArray)) =>
  some (t_7, (Go.Proofs.Ytaepibmmpdfjcaa.PBlock.Block.mk t_9_rows))

set_option maxRecDepth 100000 in
set_option maxHeartbeats 2000000 in
theorem C (fuel : Nat) (tapes : List Int → Go.Proofs.Ytaepibmmpdfjcaa.GoC.Tape) (code : (List Int)) (A0 : Option Addr) (c0 : Nat)  (w : World) (HE : Hid (Go.Proofs.Ytaepibmmpdfjcaa.GoC.Tells tapes)) (M0 : Hid (Cells w 1 A0 code.length (Go.Proofs.Ytaepibmmpdfjcaa.GoC.u8s code))) (N0 : Hid (code.length ≤ 9223372036854775807)) (V0 : Hid (∀ z ∈ code, 0 ≤ z ∧ z ≤ 255))  {r0 : (List ByteArray)} {r1_rows : (List ByteArray)} (H : Hid (P fuel tapes code = some (r0, (Go.Proofs.Ytaepibmmpdfjcaa.PBlock.Block.mk r1_rows)))) :
    Calls Try.prog 11 #[.slice A0 code.length c0] w (fun e w' => ∃ A_r0 c_r0 A_r1_rows c_r1_rows, e = .returned (.tuple #[.slice A_r0 r0.length c_r0, .agg #[.slice A_r1_rows r1_rows.length c_r1_rows]]) ∧ w'.ownsRow w.heap.size 9 1 (.slice A_r0 r0.length c_r0) r0.length (r0.map Value.string) ∧ w'.ownsRow w.heap.size 9 1 (.slice A_r1_rows r1_rows.length c_r1_rows) r1_rows.length (r1_rows.map Value.string) ∧ Apart A_r0 A_r1_rows ∧ Below w.heap.size w w') := by
  have HB := Lib.hid (Below.refl w.heap.size w)
  unfold P at H
  have N0o := N0.out
  go_enter Try.func11, Try.ntmps11
  obtain ⟨w_t_1, hw_t_1⟩ : ∃ x, w.alloc (.cells #[.slice none 0 0] 26) = x := ⟨_, rfl⟩
  have bw_t_1 : Below w.heap.size w w_t_1 := by rw [← hw_t_1]; exact (Below.refl _ _).alloc (Nat.le_refl _) _
  have HBw_t_1 := Lib.hid (Below.step HB.out bw_t_1)
  clear bw_t_1
  have kt_1_0 : w_t_1.cell? ⟨w.heap.size, 0, none⟩ = some (.slice none 0 0) := by rw [← hw_t_1]; exact box_new _ _ _ 0 _ rfl
  have Ot_1 : Hid (w_t_1.ownsRow w.heap.size 26 1 (.slice (some ⟨w.heap.size, 0, none⟩) 1 1) 1 [.slice none 0 0]) := Lib.hid (by rw [← hw_t_1]; exact own_laid (n := 1) HB.out.size rfl rfl (by unfold maxLen; omega))
  replace H := let_hid H
  obtain ⟨t_4, ht_4, H⟩ := H
  obtain ⟨w_t_4, hw_t_4⟩ : ∃ x, w_t_1.alloc (.cells #[.slice A0 code.length c0, .int .i64 0, .int .u64 0] 80) = x := ⟨_, rfl⟩
  have bw_t_4 : Below w_t_1.heap.size w_t_1 w_t_4 := by rw [← hw_t_4]; exact (Below.refl _ _).alloc (Nat.le_refl _) _
  have Kt_4 : Hid (Go.Proofs.Ytaepibmmpdfjcaa.GoC.CurIs w_t_4 w.heap.size w_t_1.heap.size A0 c0 t_4) := Lib.hid (by rw [← hw_t_4, ← ht_4]; exact Go.Proofs.Ytaepibmmpdfjcaa.GoC.cur_new HBw_t_1.out.size (Cells.below M0.out HBw_t_1.out) (fun a_ ha_ h0_ => by subst ha_; exact Go.Proofs.Ytaepibmmpdfjcaa.GoC.cells_lt M0.out (by unfold Go.Proofs.Ytaepibmmpdfjcaa.GoC.u8s; rw [List.length_map]; exact h0_)) (HE.out.2.2 code V0.out N0.out))
  have hht_4 := Lib.hid ht_4
  clear ht_4
  have Dt_4_t_1 := Lib.hid (apart_box kt_1_0)
  have HBw_t_4 := Lib.hid (Below.step HBw_t_1.out bw_t_4)
  have kt_1_0__19 := cell_below bw_t_4 kt_1_0
  replace Ot_1 := Lib.hid (own_below Ot_1.out bw_t_4)
  clear bw_t_4
  replace H := bind2_hid H
  obtain ⟨t_7, t_7_tp, qt_7, H⟩ := H
  go_wp2_with fail
  clear kt_1_0
  go_at_call 49
  refine (Go.Proofs.Ytaepibmmpdfjcaa.GsL1CurPlateSheet.C fuel (t_4) (w_t_1.heap.size) (A0) (c0) (w.heap.size) _   Kt_4 qt_7).mono ?_
  rintro e_t_7 wt_7 ⟨At_7, ct_7, rfl, ot_7, kt_7, gt_7⟩
  have Dt_7_t_1 := Lib.hid (apart_callbox ot_7 kt_1_0__19)
  have Dt_7_t_4 := Lib.hid (Go.Proofs.Ytaepibmmpdfjcaa.GoC.apart_callcur ot_7 Kt_4.out)
  have Ot_7 := Lib.hid (own_lower ot_7 HBw_t_4.out.size)
  clear ot_7
  have Kt_7 := Lib.hid kt_7
  have Gt_7 : Hid (w_t_4.grownBy wt_7 (Value.slice (some ⟨w_t_1.heap.size, 0, none⟩) 1 1).ownBlock) := Lib.hid gt_7
  clear kt_7 gt_7
  have HBwt_7 := Lib.hid (Go.Proofs.Ytaepibmmpdfjcaa.GoC.below_cur HBw_t_4.out Gt_7.out HBw_t_4.out.size (Go.Proofs.Ytaepibmmpdfjcaa.GoC.cur_lt Kt_4.out).1)
  replace kt_1_0__19 := cell_other kt_1_0__19 Gt_7.out Dt_4_t_1.out
  replace Ot_1 := Lib.hid (own_other Ot_1.out Gt_7.out Dt_4_t_1.out)
  clear Kt_4 Gt_7
  replace H := bind2_hid H
  obtain ⟨t_9, t_9_tp, qt_9, H⟩ := H
  obtain ⟨t_9_rows⟩ := t_9
  replace H := unBlock_hid H
  go_wp2_with fail
  go_at_call 50
  refine (Go.Proofs.Ytaepibmmpdfjcaa.GsL1CurBlock.C fuel (t_7_tp) (w_t_1.heap.size) (A0) (c0) (w.heap.size) _   Kt_7 qt_9).mono ?_
  rintro e_t_9 wt_9 ⟨At_9_rows, ct_9_rows, rfl, ot_9_rows, kt_9, gt_9⟩
  have Dt_9_rows_t_7 := Lib.hid (apart_call ot_9_rows Ot_7.out)
  have Dt_9_rows_t_1 := Lib.hid (apart_callbox ot_9_rows kt_1_0__19)
  have Dt_9_rows_t_4 := Lib.hid (Go.Proofs.Ytaepibmmpdfjcaa.GoC.apart_callcur ot_9_rows Kt_7.out)
  have Ot_9_rows := Lib.hid (own_lower ot_9_rows HBwt_7.out.size)
  clear ot_9_rows
  have Kt_9 := Lib.hid kt_9
  have Gt_9 : Hid (wt_7.grownBy wt_9 (Value.slice (some ⟨w_t_1.heap.size, 0, none⟩) 1 1).ownBlock) := Lib.hid gt_9
  clear kt_9 gt_9
  have HBwt_9 := Lib.hid (Go.Proofs.Ytaepibmmpdfjcaa.GoC.below_cur HBwt_7.out Gt_9.out HBwt_7.out.size (Go.Proofs.Ytaepibmmpdfjcaa.GoC.cur_lt Kt_7.out).1)
  replace kt_1_0__19 := cell_other kt_1_0__19 Gt_9.out Dt_4_t_1.out
  replace Ot_1 := Lib.hid (own_other Ot_1.out Gt_9.out Dt_4_t_1.out)
  replace Ot_7 := Lib.hid (own_other Ot_7.out Gt_9.out (Apart.symm Dt_7_t_4.out))
  clear Kt_7 Gt_9
  obtain ⟨wb11_11, hwb11_11⟩ : ∃ x, (wt_9).setCell ⟨w.heap.size, 0, none⟩ (.slice At_9_rows t_9_rows.length ct_9_rows) = x := ⟨_, rfl⟩
  have z0b11_11 := Ot_1.out.frozenAt 0
  have Sb11_11 := Lib.hid (own_stores [(0, .slice At_9_rows t_9_rows.length ct_9_rows)] Ot_1.out)
  have Pb11_11 : Hid (wb11_11.ownsRow w.heap.size 26 1 (.slice (some ⟨w.heap.size, 0, none⟩) 1 1) 1 [.slice At_9_rows t_9_rows.length ct_9_rows]) := Lib.hid (by rw [← hwb11_11]; exact Sb11_11.out.1)
  have Gb11_11 : Hid (wt_9.grownBy wb11_11 (Value.slice (some ⟨w.heap.size, 0, none⟩) 1 1).ownBlock) := Lib.hid (by rw [← hwb11_11]; exact Sb11_11.out.2)
  have HBwb11_11 := Lib.hid (HBwt_9.out.grown Gb11_11.out HBwt_9.out.size (fun q hq => (Ot_1.out.lt q hq).1))
  clear Sb11_11
  replace Ot_7 := Lib.hid (own_other Ot_7.out Gb11_11.out (Apart.symm Dt_7_t_1.out))
  replace Ot_9_rows := Lib.hid (own_other Ot_9_rows.out Gb11_11.out (Apart.symm Dt_9_rows_t_1.out))
  replace Kt_9 := Lib.hid (Go.Proofs.Ytaepibmmpdfjcaa.GoC.cur_other Kt_9.out Gb11_11.out (Apart.symm Dt_4_t_1.out) (Go.Proofs.Ytaepibmmpdfjcaa.GoC.own_ge Ot_1.out))
  clear Ot_1 Gb11_11
  have kt_1_0__20 : wb11_11.cell? ⟨w.heap.size, 0, none⟩ = some (.slice At_9_rows t_9_rows.length ct_9_rows) := Pb11_11.out.cells rfl 0 _ rfl
  have hR_ := ret_hid H
  simp only [Prod.mk.injEq, Go.Proofs.Ytaepibmmpdfjcaa.PBlock.Block.mk.injEq] at hR_
  obtain ⟨rfl, rfl⟩ := hR_
  go_wp2_with fail
  (try simp only [Exit.inBlock, Exit.then])
  refine bodyPost_ret (v := .tuple #[.slice At_7 t_7.length ct_7, .agg #[.slice At_9_rows t_9_rows.length ct_9_rows]]) ?hr_ ?hd_ ?_
  case hd_ => rfl
  case hr_ => simp [results, Try.results11, kt_1_0__20, go_sem]
  exact ⟨At_7, ct_7, At_9_rows, ct_9_rows, rfl, Ot_7.out, Ot_9_rows.out, (Apart.symm Dt_9_rows_t_7.out), HBwb11_11.out⟩
end Go.Proofs.Ytaepibmmpdfjcaa.GsDrawPlacesFor

/- loop.example/g01062/impl.within as a plain function, and the contract of the program's: where the plain one has an answer, the program has it. Conditions: slices read as lists. -/
namespace Go.Proofs.Ytaepibmmpdfjcaa.GiWithin
set_option linter.unusedVariables false
set_option linter.unusedSimpArgs false
open Go.RowKit
open Go.Proofs.Ytaepibmmpdfjcaa.Rowed Go.Proofs.Ytaepibmmpdfjcaa.Turn Go.Proofs.Ytaepibmmpdfjcaa.Aid Go.Proofs.Ytaepibmmpdfjcaa.GoP Go.Proofs.Ytaepibmmpdfjcaa.GoM

def P (n_0 : Int) (low : Int) (high : Int) : Option (Bool) :=
  letK (decide (low ≤ n_0)) fun (t_3 : Bool) =>
  joinK (fun (t_8 : Bool) =>
  some t_8) fun jt_8 => iteK t_3 (letK (decide (n_0 ≤ high)) fun (t_7 : Bool) =>
  appK jt_8 t_7) (appK jt_8 false)

set_option maxRecDepth 100000 in
set_option maxHeartbeats 2000000 in
theorem C (n_0 : Int) (low : Int) (high : Int)   (w : World)   {r : Bool} (H : Hid (P n_0 low high = some r)) :
    Calls Try.prog 63 #[.int .i64 n_0, .int .i64 low, .int .i64 high] w (Gives (.bool r) w) := by
  have HB := Lib.hid (Below.refl w.heap.size w)
  unfold P at H
  go_enter Try.func63, Try.ntmps63
  replace H := let_hid H
  obtain ⟨t_3, ht_3, H⟩ := H
  replace H := join_hid H
  cases t_3 with
  | false =>
    replace H := ite_f H
    replace H := app_hid H
    obtain rfl := ret_hid H
    go_wp2_with fail
    go_ret
    exact ⟨rfl, HB.out⟩
  | true =>
    replace H := ite_t H
    replace H := let_hid H
    obtain ⟨t_7, ht_7, H⟩ := H
    replace H := app_hid H
    obtain rfl := ret_hid H
    go_wp2_with fail
    go_ret
    exact ⟨rfl, HB.out⟩

set_option maxRecDepth 100000 in
set_option maxHeartbeats 2000000 in
theorem C0 (n_0 : Int) (low : Int) (high : Int)   (w : World)   {r : Bool} (H : Hid (P n_0 low high = some r)) :
    Calls Try.prog 63 #[.int .i64 n_0, .int .i64 low, .int .i64 high] w (fun e w'' => e = .returned (.bool r) ∧ w'' = w) := by
  have HB := Lib.hid (Below.refl w.heap.size w)
  unfold P at H
  go_enter Try.func63, Try.ntmps63
  replace H := let_hid H
  obtain ⟨t_3, ht_3, H⟩ := H
  replace H := join_hid H
  cases t_3 with
  | false =>
    replace H := ite_f H
    replace H := app_hid H
    obtain rfl := ret_hid H
    go_wp2_with fail
    go_ret
    exact ⟨rfl, rfl⟩
  | true =>
    replace H := ite_t H
    replace H := let_hid H
    obtain ⟨t_7, ht_7, H⟩ := H
    replace H := app_hid H
    obtain rfl := ret_hid H
    go_wp2_with fail
    go_ret
    exact ⟨rfl, rfl⟩
end Go.Proofs.Ytaepibmmpdfjcaa.GiWithin

/- loop.example/g01062/impl.isLetter as a plain function, and the contract of the program's: where the plain one has an answer, the program has it. Conditions: slices read as lists. -/
namespace Go.Proofs.Ytaepibmmpdfjcaa.GiIsLetter
set_option linter.unusedVariables false
set_option linter.unusedSimpArgs false
open Go.RowKit
open Go.Proofs.Ytaepibmmpdfjcaa.Rowed Go.Proofs.Ytaepibmmpdfjcaa.Turn Go.Proofs.Ytaepibmmpdfjcaa.Aid Go.Proofs.Ytaepibmmpdfjcaa.GoP Go.Proofs.Ytaepibmmpdfjcaa.GoM

def P (c : Int) : Option (Bool) :=
  letK (decide (97 ≤ c)) fun (t_2 : Bool) =>
  joinK (fun (t_6 : Bool) =>
  some t_6) fun jt_6 => iteK t_2 (letK (decide (c ≤ 122)) fun (t_5 : Bool) =>
  appK jt_6 t_5) (appK jt_6 false)

set_option maxRecDepth 100000 in
set_option maxHeartbeats 2000000 in
theorem C (c : Int)   (w : World)   {r : Bool} (H : Hid (P c = some r)) :
    Calls Try.prog 89 #[.int .u8 c] w (Gives (.bool r) w) := by
  have HB := Lib.hid (Below.refl w.heap.size w)
  unfold P at H
  go_enter Try.func89, Try.ntmps89
  replace H := let_hid H
  obtain ⟨t_2, ht_2, H⟩ := H
  replace H := join_hid H
  cases t_2 with
  | false =>
    replace H := ite_f H
    replace H := app_hid H
    obtain rfl := ret_hid H
    go_wp2_with fail
    go_ret
    exact ⟨rfl, HB.out⟩
  | true =>
    replace H := ite_t H
    replace H := let_hid H
    obtain ⟨t_5, ht_5, H⟩ := H
    replace H := app_hid H
    obtain rfl := ret_hid H
    go_wp2_with fail
    go_ret
    exact ⟨rfl, HB.out⟩

set_option maxRecDepth 100000 in
set_option maxHeartbeats 2000000 in
theorem C0 (c : Int)   (w : World)   {r : Bool} (H : Hid (P c = some r)) :
    Calls Try.prog 89 #[.int .u8 c] w (fun e w'' => e = .returned (.bool r) ∧ w'' = w) := by
  have HB := Lib.hid (Below.refl w.heap.size w)
  unfold P at H
  go_enter Try.func89, Try.ntmps89
  replace H := let_hid H
  obtain ⟨t_2, ht_2, H⟩ := H
  replace H := join_hid H
  cases t_2 with
  | false =>
    replace H := ite_f H
    replace H := app_hid H
    obtain rfl := ret_hid H
    go_wp2_with fail
    go_ret
    exact ⟨rfl, rfl⟩
  | true =>
    replace H := ite_t H
    replace H := let_hid H
    obtain ⟨t_5, ht_5, H⟩ := H
    replace H := app_hid H
    obtain rfl := ret_hid H
    go_wp2_with fail
    go_ret
    exact ⟨rfl, rfl⟩
end Go.Proofs.Ytaepibmmpdfjcaa.GiIsLetter

/- loop.example/g01062/impl.areRows as a plain function, and the contract of the program's: where the plain one has an answer, the program has it. Conditions: slices read as lists. -/
namespace Go.Proofs.Ytaepibmmpdfjcaa.GiAreRows
set_option linter.unusedVariables false
set_option linter.unusedSimpArgs false
open Go.RowKit
open Go.Proofs.Ytaepibmmpdfjcaa.Rowed Go.Proofs.Ytaepibmmpdfjcaa.Turn Go.Proofs.Ytaepibmmpdfjcaa.Aid Go.Proofs.Ytaepibmmpdfjcaa.GoP Go.Proofs.Ytaepibmmpdfjcaa.GoM

def l1 (yt_20 : ByteArray) (k1 : Nat) (s : Unit) (nx1 bk1 : Unit → Option (Bool)) : Option (Bool) :=
  
  Option.bind (idx yt_20.toList (k1 : Int)) fun (yt_39 : UInt8) =>
  letK ((yt_39.toNat : Int)) fun (t_39 : Int) =>
  letK (t_39 != 46) fun (t_40 : Bool) =>
  joinK (fun (t_47 : Bool) =>
  iteK t_47
  (some false)
  (appK nx1 ())) fun jt_47 => iteK t_40 (Option.bind (idx yt_20.toList (k1 : Int)) fun (yt_44 : UInt8) =>
  letK ((yt_44.toNat : Int)) fun (t_44 : Int) =>
  Option.bind (Go.Proofs.Ytaepibmmpdfjcaa.GiIsLetter.P t_44) fun (t_45 : Bool) =>
  letK (!t_45) fun (t_46 : Bool) =>
  appK jt_47 t_46) (appK jt_47 false)

def e1 (nx0 : (Unit) → Option (Bool)) (s : Unit) : Option (Bool) :=
  
  appK nx0 ()

def l0 (rows : (List ByteArray)) (k0 : Nat) (s : Unit) (nx0 bk0 : Unit → Option (Bool)) : Option (Bool) :=
  
  Option.bind (idx rows (k0 : Int)) fun (yt_20 : ByteArray) =>
  Option.bind (idx rows 0) fun (yt_26 : ByteArray) =>
  letK ((yt_20.size : Int) != (yt_26.size : Int)) fun (t_29 : Bool) =>
  iteK t_29
  (some false)
  (guardK (yt_20.size ≤ 9223372036854775807) <|
  cntK (l1 yt_20) (yt_20.size) 0 () (e1 nx0))

def e0  (s : Unit) : Option (Bool) :=
  
  some true

def P (rows : (List ByteArray)) (most : Int) : Option (Bool) :=
  Option.bind (Go.Proofs.Ytaepibmmpdfjcaa.GiWithin.P (rows.length : Int) 1 most) fun (t_4 : Bool) =>
  letK (!t_4) fun (t_5 : Bool) =>
  joinK (fun (t_14 : Bool) =>
  iteK t_14
  (some false)
  (cntK (l0 rows) (rows.length) 0 () (e0 ))) fun jt_14 => iteK t_5 (appK jt_14 true) (Option.bind (idx rows 0) fun (yt_8 : ByteArray) =>
  Option.bind (Go.Proofs.Ytaepibmmpdfjcaa.GiWithin.P (yt_8.size : Int) 1 most) fun (t_12 : Bool) =>
  letK (!t_12) fun (t_13 : Bool) =>
  appK jt_14 t_13)

set_option maxRecDepth 100000 in
set_option maxHeartbeats 2000000 in
theorem C (rows : (List ByteArray)) (most : Int) (A0 : Option Addr) (c0 : Nat)  (w : World) (M0 : Hid (Cells w 1 A0 rows.length (rows.map Value.string))) (N0 : Hid (rows.length ≤ 9223372036854775807))  {r : Bool} (H : Hid (P rows most = some r)) :
    Calls Try.prog 55 #[.slice A0 rows.length c0, .int .i64 most] w (Gives (.bool r) w) := by
  have HB := Lib.hid (Below.refl w.heap.size w)
  unfold P at H
  have N0o := N0.out
  go_enter Try.func55, Try.ntmps55
  replace H := bind_hid H
  obtain ⟨t_4, qt_4, H⟩ := H
  go_wp2_with fail
  go_at_call 63
  refine (Go.Proofs.Ytaepibmmpdfjcaa.GiWithin.C ((rows.length : Int)) (1) (most)  _    qt_4).mono ?_
  rintro e_t_4 wt_4 ⟨rfl, bt_4⟩
  have HBwt_4 := Lib.hid (Below.step HB.out bt_4)
  clear bt_4
  cases t_4 with
  | false =>
    replace H := let_hid H
    obtain ⟨t_5, ht_5, H⟩ := H
    obtain rfl : t_5 = true := ht_5.symm
    replace H := join_hid H
    replace H := ite_t H
    replace H := app_hid H
    replace H := ite_t H
    obtain rfl := ret_hid H
    go_wp2_with fail
    go_ret
    exact ⟨rfl, HBwt_4.out⟩
  | true =>
    replace H := let_hid H
    obtain ⟨t_5, ht_5, H⟩ := H
    obtain rfl : t_5 = false := ht_5.symm
    replace H := join_hid H
    replace H := ite_f H
    replace H := idx_hid H
    obtain ⟨nt_8, yt_8, et_8, lt_8, gt_8, H⟩ := H
    obtain rfl : 0 = nt_8 := by omega
    clear et_8
    obtain ⟨ab_t_8, ao_t_8, zt_8, At_8, z_t_8, ct_8_0⟩ := strs_at M0.out lt_8
    obtain rfl := Option.some.inj (gt_8.out.symm.trans z_t_8)
    subst At_8
    have ltt_8 := cell_lt ct_8_0
    replace ct_8_0 := cell_below HBwt_4.out ct_8_0
    clear z_t_8
    have b1t_8 : (0 : Int) < ((rows.length : Nat) : Int) := by omega
    have b3t_8 : 0 < rows.length := by omega
    try simp only [Nat.zero_mul, Nat.add_zero, Nat.zero_add, Nat.reduceMul] at ct_8_0
    replace H := bind_hid H
    obtain ⟨t_12, qt_12, H⟩ := H
    go_wp2_with fail
    go_at_call 63
    refine (Go.Proofs.Ytaepibmmpdfjcaa.GiWithin.C ((yt_8.size : Int)) (1) (most)  _    qt_12).mono ?_
    rintro e_t_12 wt_12 ⟨rfl, bt_12⟩
    have HBwt_12 := Lib.hid (Below.step HBwt_4.out bt_12)
    replace ct_8_0 := cell_below bt_12 ct_8_0
    clear bt_12
    cases t_12 with
    | false =>
      replace H := let_hid H
      obtain ⟨t_13, ht_13, H⟩ := H
      obtain rfl : t_13 = true := ht_13.symm
      replace H := app_hid H
      replace H := ite_t H
      obtain rfl := ret_hid H
      go_wp2_with fail
      go_ret
      exact ⟨rfl, HBwt_12.out⟩
    | true =>
      replace H := let_hid H
      obtain ⟨t_13, ht_13, H⟩ := H
      obtain rfl : t_13 = false := ht_13.symm
      replace H := app_hid H
      replace H := ite_f H
      go_wp2_with fail
      go_loopg [24] (rows.length) (fun m_ v24_ wr => ∃ (k0 : Nat) , k0 + m_ = rows.length ∧ v24_ = .int .i64 (k0 : Int) ∧ Hid (cntK (l0 rows) m_ k0 () (e0 ) = some r) ∧ Hid (Below w.heap.size w wr))
      case atStart => exact ⟨0, by omega, rfl, H, HBwt_12⟩
      case round =>
        obtain ⟨k0, hkm0, rfl, H, HBwr0⟩ := hrel
        rename World => wr0
        cases gk with
        | zero =>
          obtain rfl : k0 = rows.length := by omega
          have hc0 : decide (((rows.length : Nat) : Int) < ((rows.length : Nat) : Int)) = false := by simp
          replace H := cnt_zero H
          unfold e0 at H
          obtain rfl := ret_hid H
          go_wp2_with fail
          go_ret
          exact ⟨rfl, HBwr0.out⟩
        | succ m0 =>
          have hlt0 : k0 < rows.length := by omega
          have hc0 : decide ((k0 : Int) < ((rows.length : Nat) : Int)) = true := by simp; omega
          replace H := cnt_succ H
          unfold l0 at H
          replace H := idx_hid H
          obtain ⟨nt_20, yt_20, et_20, lt_20, gt_20, H⟩ := H
          obtain rfl : k0 = nt_20 := by omega
          clear et_20
          obtain ⟨ab_t_20, ao_t_20, zt_20, At_20, z_t_20, ct_20_0⟩ := strs_at M0.out lt_20
          obtain rfl := Option.some.inj (gt_20.out.symm.trans z_t_20)
          simp only [Option.some.injEq, Addr.mk.injEq] at At_20
          obtain ⟨rfl, rfl, _⟩ := At_20
          have ltt_20 := cell_lt ct_20_0
          replace ct_20_0 := cell_below HBwr0.out ct_20_0
          clear z_t_20
          have b0t_20 : (0 : Int) ≤ (k0 : Int) := by omega
          have b1t_20 : (k0 : Int) < ((rows.length : Nat) : Int) := by omega
          have b2t_20 : ((k0 : Int)).toNat = k0 := by omega
          replace H := idx_hid H
          obtain ⟨nt_26, yt_26, et_26, lt_26, gt_26, H⟩ := H
          obtain rfl : 0 = nt_26 := by omega
          clear et_26
          obtain ⟨ab_t_26, ao_t_26, zt_26, At_26, z_t_26, ct_26_0⟩ := strs_at M0.out lt_26
          obtain rfl := Option.some.inj (gt_26.out.symm.trans z_t_26)
          simp only [Option.some.injEq, Addr.mk.injEq] at At_26
          obtain ⟨rfl, rfl, _⟩ := At_26
          have ltt_26 := cell_lt ct_26_0
          replace ct_26_0 := cell_below HBwr0.out ct_26_0
          clear z_t_26
          have b1t_26 : (0 : Int) < ((rows.length : Nat) : Int) := by omega
          have b3t_26 : 0 < rows.length := by omega
          try simp only [Nat.zero_mul, Nat.add_zero, Nat.zero_add, Nat.reduceMul] at ct_26_0
          replace H := let_hid H
          obtain ⟨t_29, ht_29, H⟩ := H
          cases t_29 with
          | false =>
            have Hht_29 : Hid (yt_20.size = yt_26.size) := Lib.hid (by have := bne_eq_false_iff_eq.1 ht_29; omega)
            have nht_29 : (yt_20.size == yt_26.size) = true := beq_iff_eq.2 Hht_29.out
            replace H := ite_f H
            replace H := guard_hid H
            obtain ⟨hg1, H⟩ := H
            go_wp2_with fail
            go_loopg [37] (yt_20.size) (fun m_ v37_ wr => ∃ (k1 : Nat) , k1 + m_ = yt_20.size ∧ v37_ = .int .i64 (k1 : Int) ∧ Hid (cntK (l1 yt_20) m_ k1 () (e1 (fun s' => cntK (l0 rows) m0 (k0 + 1) s' (e0 ))) = some r) ∧ Hid (Below w.heap.size w wr))
            case atStart => exact ⟨0, by omega, rfl, H, HBwr0⟩
            case round =>
              obtain ⟨k1, hkm1, rfl, H, HBwr1⟩ := hrel
              rename World => wr1
              cases gk with
              | zero =>
                obtain rfl : k1 = yt_20.size := by omega
                have hc1 : decide (((yt_20.size : Nat) : Int) < ((yt_20.size : Nat) : Int)) = false := by simp
                replace H := cnt_zero H
                unfold e1 at H
                replace H := app_hid H
                go_wp2_with fail
                go_roundg m0
                case measure => omega
                case rel => exact ⟨k0 + 1, by omega, by go_num, H, HBwr1⟩
              | succ m1 =>
                have hlt1 : k1 < yt_20.size := by omega
                have hc1 : decide ((k1 : Int) < ((yt_20.size : Nat) : Int)) = true := by simp; omega
                replace H := cnt_succ H
                unfold l1 at H
                replace H := idx_hid H
                obtain ⟨nt_39, yt_39, et_39, lt_39, gt_39, H⟩ := H
                obtain rfl : k1 = nt_39 := by omega
                clear et_39
                have rt_39 := byte_rule lt_39 gt_39.out
                have b0t_39 : (0 : Int) ≤ (k1 : Int) := by omega
                have b1t_39 : (k1 : Int) < (yt_20.size : Int) := by have := size_list yt_20; omega
                have b2t_39 : ((k1 : Int)).toNat = k1 := by omega
                have b3t_39 : k1 < yt_20.size := by have := size_list yt_20; omega
                replace H := let_hid H
                obtain ⟨t_39, ht_39, H⟩ := H
                replace H := let_hid H
                obtain ⟨t_40, ht_40, H⟩ := H
                replace H := join_hid H
                cases t_40 with
                | false =>
                  replace H := ite_f H
                  replace H := app_hid H
                  replace H := ite_f H
                  replace H := app_hid H
                  go_wp2_with fail
                  go_roundg m1
                  case measure => omega
                  case rel => exact ⟨k1 + 1, by omega, by go_num, H, HBwr1⟩
                | true =>
                  replace H := ite_t H
                  replace H := idx_hid H
                  obtain ⟨nt_44, yt_44, et_44, lt_44, gt_44, H⟩ := H
                  obtain rfl : k1 = nt_44 := by omega
                  clear et_44
                  obtain rfl := Option.some.inj (gt_39.out.symm.trans gt_44.out)
                  clear gt_44 lt_44
                  replace H := let_hid H
                  obtain ⟨t_44, ht_44, H⟩ := H
                  obtain rfl := ht_39.symm.trans ht_44
                  replace H := bind_hid H
                  obtain ⟨t_45, qt_45, H⟩ := H
                  go_wp2_with fail
                  go_at_call 89
                  refine (Go.Proofs.Ytaepibmmpdfjcaa.GiIsLetter.C (t_39)  _    qt_45).mono ?_
                  rintro e_t_45 wt_45 ⟨rfl, bt_45⟩
                  have HBwt_45 := Lib.hid (Below.step HBwr1.out bt_45)
                  clear bt_45
                  cases t_45 with
                  | false =>
                    replace H := let_hid H
                    obtain ⟨t_46, ht_46, H⟩ := H
                    obtain rfl : t_46 = true := ht_46.symm
                    replace H := app_hid H
                    replace H := ite_t H
                    obtain rfl := ret_hid H
                    go_wp2_with fail
                    go_ret
                    exact ⟨rfl, HBwt_45.out⟩
                  | true =>
                    replace H := let_hid H
                    obtain ⟨t_46, ht_46, H⟩ := H
                    obtain rfl : t_46 = false := ht_46.symm
                    replace H := app_hid H
                    replace H := ite_f H
                    replace H := app_hid H
                    go_wp2_with fail
                    go_roundg m1
                    case measure => omega
                    case rel => exact ⟨k1 + 1, by omega, by go_num, H, HBwt_45⟩
          | true =>
            have nht_29 : ¬ (yt_20.size = yt_26.size) := by have := bne_iff_ne.1 ht_29; omega
            replace H := ite_t H
            obtain rfl := ret_hid H
            go_wp2_with fail
            go_ret
            exact ⟨rfl, HBwr0.out⟩
end Go.Proofs.Ytaepibmmpdfjcaa.GiAreRows

/- loop.example/g01062/impl.IsSheet as a plain function, and the contract of the program's: where the plain one has an answer, the program has it. Conditions: slices read as lists. -/
namespace Go.Proofs.Ytaepibmmpdfjcaa.GiIsSheet
set_option linter.unusedVariables false
set_option linter.unusedSimpArgs false
open Go.RowKit
open Go.Proofs.Ytaepibmmpdfjcaa.Rowed Go.Proofs.Ytaepibmmpdfjcaa.Turn Go.Proofs.Ytaepibmmpdfjcaa.Aid Go.Proofs.Ytaepibmmpdfjcaa.GoP Go.Proofs.Ytaepibmmpdfjcaa.GoM

def P (sheet : (List ByteArray)) : Option (Bool) :=
  Option.bind (Go.Proofs.Ytaepibmmpdfjcaa.GiAreRows.P sheet 5) fun (t_2 : Bool) =>
  some t_2

set_option maxRecDepth 100000 in
set_option maxHeartbeats 2000000 in
theorem C (sheet : (List ByteArray)) (A0 : Option Addr) (c0 : Nat)  (w : World) (M0 : Hid (Cells w 1 A0 sheet.length (sheet.map Value.string))) (N0 : Hid (sheet.length ≤ 9223372036854775807))  {r : Bool} (H : Hid (P sheet = some r)) :
    Calls Try.prog 15 #[.slice A0 sheet.length c0] w (Gives (.bool r) w) := by
  have HB := Lib.hid (Below.refl w.heap.size w)
  unfold P at H
  have N0o := N0.out
  go_enter Try.func15, Try.ntmps15
  replace H := bind_hid H
  obtain ⟨t_2, qt_2, H⟩ := H
  go_wp2_with fail
  go_at_call 55
  refine (Go.Proofs.Ytaepibmmpdfjcaa.GiAreRows.C (sheet) (5) A0 c0 _   (Lib.hid (Cells.below M0.out HB.out)) N0 qt_2).mono ?_
  rintro e_t_2 wt_2 ⟨rfl, bt_2⟩
  have HBwt_2 := Lib.hid (Below.step HB.out bt_2)
  clear bt_2
  obtain rfl := ret_hid H
  go_wp2_with fail
  go_ret
  exact ⟨rfl, HBwt_2.out⟩
end Go.Proofs.Ytaepibmmpdfjcaa.GiIsSheet

/- loop.example/g01062/impl.IsBlock as a plain function, and the contract of the program's: where the plain one has an answer, the program has it. Conditions: slices read as lists. -/
namespace Go.Proofs.Ytaepibmmpdfjcaa.GiIsBlock
set_option linter.unusedVariables false
set_option linter.unusedSimpArgs false
open Go.RowKit
open Go.Proofs.Ytaepibmmpdfjcaa.Rowed Go.Proofs.Ytaepibmmpdfjcaa.Turn Go.Proofs.Ytaepibmmpdfjcaa.Aid Go.Proofs.Ytaepibmmpdfjcaa.GoP Go.Proofs.Ytaepibmmpdfjcaa.GoM

def P (b_rows : (List ByteArray)) : Option (Bool) :=
  Option.bind (Go.Proofs.Ytaepibmmpdfjcaa.GiAreRows.P b_rows 3) fun (t_4 : Bool) =>
  some t_4

set_option maxRecDepth 100000 in
set_option maxHeartbeats 2000000 in
theorem C (b_rows : (List ByteArray)) (A0_0 : Option Addr) (c0_0 : Nat)  (w : World) (M0_0 : Hid (Cells w 1 A0_0 b_rows.length (b_rows.map Value.string))) (N0_0 : Hid (b_rows.length ≤ 9223372036854775807))  {r : Bool} (H : Hid (P b_rows = some r)) :
    Calls Try.prog 16 #[.agg #[.slice A0_0 b_rows.length c0_0]] w (Gives (.bool r) w) := by
  have HB := Lib.hid (Below.refl w.heap.size w)
  unfold P at H
  have N0_0o := N0_0.out
  go_enter Try.func16, Try.ntmps16
  obtain ⟨w_b_0, hw_b_0⟩ : ∃ x, w.alloc (.cells #[.slice A0_0 b_rows.length c0_0] 26) = x := ⟨_, rfl⟩
  have bw_b_0 : Below w.heap.size w w_b_0 := by rw [← hw_b_0]; exact (Below.refl _ _).alloc (Nat.le_refl _) _
  have HBw_b_0 := Lib.hid (Below.step HB.out bw_b_0)
  clear bw_b_0
  have kb_0_0 : w_b_0.cell? ⟨w.heap.size, 0, none⟩ = some (.slice A0_0 b_rows.length c0_0) := by rw [← hw_b_0]; exact box_new _ _ _ 0 _ rfl
  replace H := bind_hid H
  obtain ⟨t_4, qt_4, H⟩ := H
  go_wp2_with fail
  go_at_call 55
  refine (Go.Proofs.Ytaepibmmpdfjcaa.GiAreRows.C (b_rows) (3) A0_0 c0_0 _   (Lib.hid (Cells.below M0_0.out HBw_b_0.out)) N0_0 qt_4).mono ?_
  rintro e_t_4 wt_4 ⟨rfl, bt_4⟩
  have HBwt_4 := Lib.hid (Below.step HBw_b_0.out bt_4)
  replace kb_0_0 := cell_below bt_4 kb_0_0
  clear bt_4
  obtain rfl := ret_hid H
  go_wp2_with fail
  go_ret
  exact ⟨rfl, HBwt_4.out⟩
end Go.Proofs.Ytaepibmmpdfjcaa.GiIsBlock

/- loop.example/g01062/impl.seenAt as a plain function, and the contract of the program's: where the plain one has an answer, the program has it. Conditions: slices read as lists. -/
namespace Go.Proofs.Ytaepibmmpdfjcaa.GiSeenAt
set_option linter.unusedVariables false
set_option linter.unusedSimpArgs false
open Go.RowKit
open Go.Proofs.Ytaepibmmpdfjcaa.Rowed Go.Proofs.Ytaepibmmpdfjcaa.Turn Go.Proofs.Ytaepibmmpdfjcaa.Aid Go.Proofs.Ytaepibmmpdfjcaa.GoP Go.Proofs.Ytaepibmmpdfjcaa.GoM

def P (rows : (List ByteArray)) (row_1 : Int) (col : Int) : Option (Int) :=
  letK (IntKind.i64.wrap ((rows.length : Int) - 1)) fun (t_4 : Int) =>
  Option.bind (Go.Proofs.Ytaepibmmpdfjcaa.GiWithin.P row_1 0 t_4) fun (t_5 : Bool) =>
  letK (!t_5) fun (t_6 : Bool) =>
  joinK (fun (t_17 : Bool) =>
  iteK t_17
  (some 46)
  (Option.bind (idx rows row_1) fun (yt_21 : ByteArray) =>
  Option.bind (idx yt_21.toList col) fun (yt_24 : UInt8) =>
  letK ((yt_24.toNat : Int)) fun (t_24 : Int) =>
  some t_24)) fun jt_17 => iteK t_6 (appK jt_17 true) (Option.bind (idx rows row_1) fun (yt_11 : ByteArray) =>
  letK (IntKind.i64.wrap ((yt_11.size : Int) - 1)) fun (t_14 : Int) =>
  Option.bind (Go.Proofs.Ytaepibmmpdfjcaa.GiWithin.P col 0 t_14) fun (t_15 : Bool) =>
  letK (!t_15) fun (t_16 : Bool) =>
  appK jt_17 t_16)

set_option maxRecDepth 100000 in
set_option maxHeartbeats 2000000 in
theorem C (rows : (List ByteArray)) (row_1 : Int) (col : Int) (A0 : Option Addr) (c0 : Nat)  (w : World) (M0 : Hid (Cells w 1 A0 rows.length (rows.map Value.string))) (N0 : Hid (rows.length ≤ 9223372036854775807))  {r : Int} (H : Hid (P rows row_1 col = some r)) :
    Calls Try.prog 93 #[.slice A0 rows.length c0, .int .i64 row_1, .int .i64 col] w (Gives (.int .u8 r) w) := by
  have HB := Lib.hid (Below.refl w.heap.size w)
  unfold P at H
  have N0o := N0.out
  go_enter Try.func93, Try.ntmps93
  replace H := let_hid H
  obtain ⟨t_4, ht_4, H⟩ := H
  try have hv_t_4 : (rows.length : Int) - 1 = t_4 := by rw [← ht_4]; exact (IntWalk.i64_in _ (by omega)).symm
  try have hv2_t_4 : IntKind.i64.wrap t_4 = t_4 := by rw [← hv_t_4]; exact IntWalk.i64_in _ (by omega)
  replace H := bind_hid H
  obtain ⟨t_5, qt_5, H⟩ := H
  go_wp2_with fail
  go_at_call 63
  refine (Go.Proofs.Ytaepibmmpdfjcaa.GiWithin.C (row_1) (0) (t_4)  _    qt_5).mono ?_
  rintro e_t_5 wt_5 ⟨rfl, bt_5⟩
  have HBwt_5 := Lib.hid (Below.step HB.out bt_5)
  clear bt_5
  cases t_5 with
  | false =>
    replace H := let_hid H
    obtain ⟨t_6, ht_6, H⟩ := H
    obtain rfl : t_6 = true := ht_6.symm
    replace H := join_hid H
    replace H := ite_t H
    replace H := app_hid H
    replace H := ite_t H
    obtain rfl := ret_hid H
    go_wp2_with fail
    go_ret
    exact ⟨rfl, HBwt_5.out⟩
  | true =>
    replace H := let_hid H
    obtain ⟨t_6, ht_6, H⟩ := H
    obtain rfl : t_6 = false := ht_6.symm
    replace H := join_hid H
    replace H := ite_f H
    replace H := idx_hid H
    obtain ⟨nt_11, yt_11, et_11, lt_11, gt_11, H⟩ := H
    subst et_11
    obtain ⟨ab_t_11, ao_t_11, zt_11, At_11, z_t_11, ct_11_0⟩ := strs_at M0.out lt_11
    obtain rfl := Option.some.inj (gt_11.out.symm.trans z_t_11)
    subst At_11
    have ltt_11 := cell_lt ct_11_0
    replace ct_11_0 := cell_below HBwt_5.out ct_11_0
    clear z_t_11
    have b0t_11 : (0 : Int) ≤ (nt_11 : Int) := by omega
    have b1t_11 : (nt_11 : Int) < ((rows.length : Nat) : Int) := by omega
    have b2t_11 : ((nt_11 : Int)).toNat = nt_11 := by omega
    replace H := let_hid H
    obtain ⟨t_14, ht_14, H⟩ := H
    replace H := bind_hid H
    obtain ⟨t_15, qt_15, H⟩ := H
    go_wp2_with fail
    go_at_call 63
    refine (Go.Proofs.Ytaepibmmpdfjcaa.GiWithin.C (col) (0) (t_14)  _    qt_15).mono ?_
    rintro e_t_15 wt_15 ⟨rfl, bt_15⟩
    have HBwt_15 := Lib.hid (Below.step HBwt_5.out bt_15)
    replace ct_11_0 := cell_below bt_15 ct_11_0
    clear bt_15
    cases t_15 with
    | false =>
      replace H := let_hid H
      obtain ⟨t_16, ht_16, H⟩ := H
      obtain rfl : t_16 = true := ht_16.symm
      replace H := app_hid H
      replace H := ite_t H
      obtain rfl := ret_hid H
      go_wp2_with fail
      go_ret
      exact ⟨rfl, HBwt_15.out⟩
    | true =>
      replace H := let_hid H
      obtain ⟨t_16, ht_16, H⟩ := H
      obtain rfl : t_16 = false := ht_16.symm
      replace H := app_hid H
      replace H := ite_f H
      replace H := idx_hid H
      obtain ⟨nt_21, yt_21, et_21, lt_21, gt_21, H⟩ := H
      obtain rfl : nt_11 = nt_21 := by omega
      clear et_21
      obtain rfl := Option.some.inj (gt_11.out.symm.trans gt_21.out)
      clear gt_21 lt_21
      replace H := idx_hid H
      obtain ⟨nt_24, yt_24, et_24, lt_24, gt_24, H⟩ := H
      subst et_24
      have rt_24 := byte_rule lt_24 gt_24.out
      have b0t_24 : (0 : Int) ≤ (nt_24 : Int) := by omega
      have b1t_24 : (nt_24 : Int) < (yt_11.size : Int) := by have := size_list yt_11; omega
      have b2t_24 : ((nt_24 : Int)).toNat = nt_24 := by omega
      have b3t_24 : nt_24 < yt_11.size := by have := size_list yt_11; omega
      replace H := let_hid H
      obtain ⟨t_24, ht_24, H⟩ := H
      obtain rfl := ret_hid H
      go_wp2_with fail
      go_ret
      exact ⟨rfl, HBwt_15.out⟩
end Go.Proofs.Ytaepibmmpdfjcaa.GiSeenAt

/- loop.example/g01062/impl.agree as a plain function, and the contract of the program's: where the plain one has an answer, the program has it. Conditions: slices read as lists. -/
namespace Go.Proofs.Ytaepibmmpdfjcaa.GiAgree
set_option linter.unusedVariables false
set_option linter.unusedSimpArgs false
open Go.RowKit
open Go.Proofs.Ytaepibmmpdfjcaa.Rowed Go.Proofs.Ytaepibmmpdfjcaa.Turn Go.Proofs.Ytaepibmmpdfjcaa.Aid Go.Proofs.Ytaepibmmpdfjcaa.GoP Go.Proofs.Ytaepibmmpdfjcaa.GoM

def l1 (rows : (List ByteArray)) (down : Int) (right : Int) (k0 : Nat) (yt_6 : ByteArray) (k1 : Nat) (s : Unit) (nx1 bk1 : Unit → Option (Bool)) : Option (Bool) :=
  
  letK (IntKind.i64.wrap (down + (k0 : Int))) fun (t_19 : Int) =>
  letK (IntKind.i64.wrap (right + (k1 : Int))) fun (t_22 : Int) =>
  Option.bind (Go.Proofs.Ytaepibmmpdfjcaa.GiSeenAt.P rows t_19 t_22) fun (t_23 : Int) =>
  letK (t_23 != 46) fun (t_26 : Bool) =>
  joinK (fun (t_32 : Bool) =>
  joinK (fun (t_39 : Bool) =>
  iteK t_39
  (some false)
  (appK nx1 ())) fun jt_39 => iteK t_32 (Option.bind (idx yt_6.toList (k1 : Int)) fun (yt_37 : UInt8) =>
  letK ((yt_37.toNat : Int)) fun (t_37 : Int) =>
  letK (t_23 != t_37) fun (t_38 : Bool) =>
  appK jt_39 t_38) (appK jt_39 false)) fun jt_32 => iteK t_26 (Option.bind (idx yt_6.toList (k1 : Int)) fun (yt_30 : UInt8) =>
  letK ((yt_30.toNat : Int)) fun (t_30 : Int) =>
  letK (t_30 != 46) fun (t_31 : Bool) =>
  appK jt_32 t_31) (appK jt_32 false)

def e1 (nx0 : (Unit) → Option (Bool)) (s : Unit) : Option (Bool) :=
  
  appK nx0 ()

def l0 (rows : (List ByteArray)) (others : (List ByteArray)) (down : Int) (right : Int) (k0 : Nat) (s : Unit) (nx0 bk0 : Unit → Option (Bool)) : Option (Bool) :=
  
  Option.bind (idx others (k0 : Int)) fun (yt_6 : ByteArray) =>
  guardK (yt_6.size ≤ 9223372036854775807) <|
  cntK (l1 rows down right k0 yt_6) (yt_6.size) 0 () (e1 nx0)

def e0  (s : Unit) : Option (Bool) :=
  
  some true

def P (rows : (List ByteArray)) (others : (List ByteArray)) (down : Int) (right : Int) : Option (Bool) :=
  cntK (l0 rows others down right) (others.length) 0 () (e0 )

set_option maxRecDepth 100000 in
set_option maxHeartbeats 2000000 in
theorem C (rows : (List ByteArray)) (others : (List ByteArray)) (down : Int) (right : Int) (A0 : Option Addr) (c0 : Nat) (A1 : Option Addr) (c1 : Nat)  (w : World) (M0 : Hid (Cells w 1 A0 rows.length (rows.map Value.string))) (N0 : Hid (rows.length ≤ 9223372036854775807)) (M1 : Hid (Cells w 1 A1 others.length (others.map Value.string))) (N1 : Hid (others.length ≤ 9223372036854775807))  {r : Bool} (H : Hid (P rows others down right = some r)) :
    Calls Try.prog 64 #[.slice A0 rows.length c0, .slice A1 others.length c1, .int .i64 down, .int .i64 right] w (Gives (.bool r) w) := by
  have HB := Lib.hid (Below.refl w.heap.size w)
  unfold P at H
  have N0o := N0.out
  have N1o := N1.out
  go_enter Try.func64, Try.ntmps64
  go_wp2_with fail
  go_loopg [15] (others.length) (fun m_ v15_ wr => ∃ (k0 : Nat) , k0 + m_ = others.length ∧ v15_ = .int .i64 (k0 : Int) ∧ Hid (cntK (l0 rows others down right) m_ k0 () (e0 ) = some r) ∧ Hid (Below w.heap.size w wr))
  case atStart => exact ⟨0, by omega, rfl, H, HB⟩
  case round =>
    obtain ⟨k0, hkm0, rfl, H, HBwr0⟩ := hrel
    rename World => wr0
    cases gk with
    | zero =>
      obtain rfl : k0 = others.length := by omega
      have hc0 : decide (((others.length : Nat) : Int) < ((others.length : Nat) : Int)) = false := by simp
      replace H := cnt_zero H
      unfold e0 at H
      obtain rfl := ret_hid H
      go_wp2_with fail
      go_ret
      exact ⟨rfl, HBwr0.out⟩
    | succ m0 =>
      have hlt0 : k0 < others.length := by omega
      have hc0 : decide ((k0 : Int) < ((others.length : Nat) : Int)) = true := by simp; omega
      replace H := cnt_succ H
      unfold l0 at H
      replace H := idx_hid H
      obtain ⟨nt_6, yt_6, et_6, lt_6, gt_6, H⟩ := H
      obtain rfl : k0 = nt_6 := by omega
      clear et_6
      obtain ⟨ab_t_6, ao_t_6, zt_6, At_6, z_t_6, ct_6_0⟩ := strs_at M1.out lt_6
      obtain rfl := Option.some.inj (gt_6.out.symm.trans z_t_6)
      subst At_6
      have ltt_6 := cell_lt ct_6_0
      replace ct_6_0 := cell_below HBwr0.out ct_6_0
      clear z_t_6
      have b0t_6 : (0 : Int) ≤ (k0 : Int) := by omega
      have b1t_6 : (k0 : Int) < ((others.length : Nat) : Int) := by omega
      have b2t_6 : ((k0 : Int)).toNat = k0 := by omega
      replace H := guard_hid H
      obtain ⟨hg1, H⟩ := H
      go_wp2_with fail
      go_loopg [22] (yt_6.size) (fun m_ v22_ wr => ∃ (k1 : Nat) , k1 + m_ = yt_6.size ∧ v22_ = .int .i64 (k1 : Int) ∧ Hid (cntK (l1 rows down right k0 yt_6) m_ k1 () (e1 (fun s' => cntK (l0 rows others down right) m0 (k0 + 1) s' (e0 ))) = some r) ∧ Hid (Below w.heap.size w wr))
      case atStart => exact ⟨0, by omega, rfl, H, HBwr0⟩
      case round =>
        obtain ⟨k1, hkm1, rfl, H, HBwr1⟩ := hrel
        rename World => wr1
        cases gk with
        | zero =>
          obtain rfl : k1 = yt_6.size := by omega
          have hc1 : decide (((yt_6.size : Nat) : Int) < ((yt_6.size : Nat) : Int)) = false := by simp
          replace H := cnt_zero H
          unfold e1 at H
          replace H := app_hid H
          go_wp2_with fail
          go_roundg m0
          case measure => omega
          case rel => exact ⟨k0 + 1, by omega, by go_num, H, HBwr1⟩
        | succ m1 =>
          have hlt1 : k1 < yt_6.size := by omega
          have hc1 : decide ((k1 : Int) < ((yt_6.size : Nat) : Int)) = true := by simp; omega
          replace H := cnt_succ H
          unfold l1 at H
          replace H := let_hid H
          obtain ⟨t_19, ht_19, H⟩ := H
          replace H := let_hid H
          obtain ⟨t_22, ht_22, H⟩ := H
          replace H := bind_hid H
          obtain ⟨t_23, qt_23, H⟩ := H
          go_wp2_with fail
          go_at_call 93
          refine (Go.Proofs.Ytaepibmmpdfjcaa.GiSeenAt.C (rows) (t_19) (t_22) A0 c0 _   (Lib.hid (Cells.below M0.out HBwr1.out)) N0 qt_23).mono ?_
          rintro e_t_23 wt_23 ⟨rfl, bt_23⟩
          have HBwt_23 := Lib.hid (Below.step HBwr1.out bt_23)
          clear bt_23
          replace H := let_hid H
          obtain ⟨t_26, ht_26, H⟩ := H
          replace H := join_hid H
          cases t_26 with
          | false =>
            replace H := ite_f H
            replace H := app_hid H
            replace H := join_hid H
            replace H := ite_f H
            replace H := app_hid H
            replace H := ite_f H
            replace H := app_hid H
            go_wp2_with fail
            go_roundg m1
            case measure => omega
            case rel => exact ⟨k1 + 1, by omega, by go_num, H, HBwt_23⟩
          | true =>
            replace H := ite_t H
            replace H := idx_hid H
            obtain ⟨nt_30, yt_30, et_30, lt_30, gt_30, H⟩ := H
            obtain rfl : k1 = nt_30 := by omega
            clear et_30
            have rt_30 := byte_rule lt_30 gt_30.out
            have b0t_30 : (0 : Int) ≤ (k1 : Int) := by omega
            have b1t_30 : (k1 : Int) < (yt_6.size : Int) := by have := size_list yt_6; omega
            have b2t_30 : ((k1 : Int)).toNat = k1 := by omega
            have b3t_30 : k1 < yt_6.size := by have := size_list yt_6; omega
            replace H := let_hid H
            obtain ⟨t_30, ht_30, H⟩ := H
            replace H := let_hid H
            obtain ⟨t_31, ht_31, H⟩ := H
            replace H := app_hid H
            replace H := join_hid H
            cases t_31 with
            | false =>
              replace H := ite_f H
              replace H := app_hid H
              replace H := ite_f H
              replace H := app_hid H
              go_wp2_with fail
              go_roundg m1
              case measure => omega
              case rel => exact ⟨k1 + 1, by omega, by go_num, H, HBwt_23⟩
            | true =>
              replace H := ite_t H
              replace H := idx_hid H
              obtain ⟨nt_37, yt_37, et_37, lt_37, gt_37, H⟩ := H
              obtain rfl : k1 = nt_37 := by omega
              clear et_37
              obtain rfl := Option.some.inj (gt_30.out.symm.trans gt_37.out)
              clear gt_37 lt_37
              replace H := let_hid H
              obtain ⟨t_37, ht_37, H⟩ := H
              obtain rfl := ht_30.symm.trans ht_37
              replace H := let_hid H
              obtain ⟨t_38, ht_38, H⟩ := H
              replace H := app_hid H
              cases t_38 with
              | false =>
                replace H := ite_f H
                replace H := app_hid H
                go_wp2_with fail
                go_roundg m1
                case measure => omega
                case rel => exact ⟨k1 + 1, by omega, by go_num, H, HBwt_23⟩
              | true =>
                replace H := ite_t H
                obtain rfl := ret_hid H
                go_wp2_with fail
                go_ret
                exact ⟨rfl, HBwt_23.out⟩
end Go.Proofs.Ytaepibmmpdfjcaa.GiAgree

/- loop.example/g01062/impl.fits as a plain function, and the contract of the program's: where the plain one has an answer, the program has it. Conditions: slices read as lists. -/
namespace Go.Proofs.Ytaepibmmpdfjcaa.GiFits
set_option linter.unusedVariables false
set_option linter.unusedSimpArgs false
open Go.RowKit
open Go.Proofs.Ytaepibmmpdfjcaa.Rowed Go.Proofs.Ytaepibmmpdfjcaa.Turn Go.Proofs.Ytaepibmmpdfjcaa.Aid Go.Proofs.Ytaepibmmpdfjcaa.GoP Go.Proofs.Ytaepibmmpdfjcaa.GoM

def P (sheet : (List ByteArray)) (b_rows : (List ByteArray)) (row_2 : Int) (col : Int) : Option (Bool) :=
  letK (IntKind.i64.wrap ((sheet.length : Int) - (b_rows.length : Int))) fun (t_8 : Int) =>
  Option.bind (Go.Proofs.Ytaepibmmpdfjcaa.GiWithin.P row_2 0 t_8) fun (t_9 : Bool) =>
  joinK (fun (t_23 : Bool) =>
  joinK (fun (t_31 : Bool) =>
  some t_31) fun jt_31 => iteK t_23 (Option.bind (Go.Proofs.Ytaepibmmpdfjcaa.GiAgree.P sheet b_rows row_2 col) fun (t_30 : Bool) =>
  appK jt_31 t_30) (appK jt_31 false)) fun jt_23 => iteK t_9 (Option.bind (idx sheet 0) fun (yt_13 : ByteArray) =>
  Option.bind (idx b_rows 0) fun (yt_18 : ByteArray) =>
  letK (IntKind.i64.wrap ((yt_13.size : Int) - (yt_18.size : Int))) fun (t_21 : Int) =>
  Option.bind (Go.Proofs.Ytaepibmmpdfjcaa.GiWithin.P col 0 t_21) fun (t_22 : Bool) =>
  appK jt_23 t_22) (appK jt_23 false)

set_option maxRecDepth 100000 in
set_option maxHeartbeats 2000000 in
theorem C (sheet : (List ByteArray)) (b_rows : (List ByteArray)) (row_2 : Int) (col : Int) (A0 : Option Addr) (c0 : Nat) (A1_0 : Option Addr) (c1_0 : Nat)  (w : World) (M0 : Hid (Cells w 1 A0 sheet.length (sheet.map Value.string))) (N0 : Hid (sheet.length ≤ 9223372036854775807)) (M1_0 : Hid (Cells w 1 A1_0 b_rows.length (b_rows.map Value.string))) (N1_0 : Hid (b_rows.length ≤ 9223372036854775807))  {r : Bool} (H : Hid (P sheet b_rows row_2 col = some r)) :
    Calls Try.prog 56 #[.slice A0 sheet.length c0, .agg #[.slice A1_0 b_rows.length c1_0], .int .i64 row_2, .int .i64 col] w (Gives (.bool r) w) := by
  have HB := Lib.hid (Below.refl w.heap.size w)
  unfold P at H
  have N0o := N0.out
  have N1_0o := N1_0.out
  go_enter Try.func56, Try.ntmps56
  obtain ⟨w_b_0, hw_b_0⟩ : ∃ x, w.alloc (.cells #[.slice A1_0 b_rows.length c1_0] 26) = x := ⟨_, rfl⟩
  have bw_b_0 : Below w.heap.size w w_b_0 := by rw [← hw_b_0]; exact (Below.refl _ _).alloc (Nat.le_refl _) _
  have HBw_b_0 := Lib.hid (Below.step HB.out bw_b_0)
  clear bw_b_0
  have kb_0_0 : w_b_0.cell? ⟨w.heap.size, 0, none⟩ = some (.slice A1_0 b_rows.length c1_0) := by rw [← hw_b_0]; exact box_new _ _ _ 0 _ rfl
  go_wp2_with fail
  have Hkb_0_0 := Lib.hid kb_0_0
  replace kb_0_0 := cell_regrown kb_0_0
  replace H := let_hid H
  obtain ⟨t_8, ht_8, H⟩ := H
  replace H := bind_hid H
  obtain ⟨t_9, qt_9, H⟩ := H
  have nt_9 : ∀ d os, Calls Try.prog 63 #[.int .i64 row_2, .int .i64 0, .int .i64 t_8] (Go.Sort.grow (redrawn w_b_0 d) os) fun e w'' => e = .returned (.bool t_9) ∧ ∃ p : Regrown, w'' = Go.Sort.grow (redrawn w_b_0 p.d) p.os := fun d os => Calls.regrown_of (Go.Proofs.Ytaepibmmpdfjcaa.GiWithin.C (row_2) (0) (t_8)  _    qt_9)
  replace H := join_hid H
  cases t_9 with
  | false =>
    replace H := ite_f H
    replace H := app_hid H
    replace H := join_hid H
    replace H := ite_f H
    replace H := app_hid H
    refine wp_region_quiet_below (by kernel_rfl) (by kernel_rfl) ?_
    repeat (go_big_quiet_step (first | (go_at_call 63; exact nt_9 _ _)))
    refine wpQuiet_nil ?_
    intro Y1 hY1
    replace hY1 := below_class hY1
    clear nt_9
    replace kb_0_0 := Hkb_0_0.out
    clear Hkb_0_0
    have HBY1 := Lib.hid (Below.step HBw_b_0.out hY1)
    replace kb_0_0 := cell_below hY1 kb_0_0
    clear hY1
    obtain rfl := ret_hid H
    go_wp2_with fail
    go_ret
    exact ⟨rfl, HBY1.out⟩
  | true =>
    replace H := ite_t H
    replace H := idx_hid H
    obtain ⟨nt_13, yt_13, et_13, lt_13, gt_13, H⟩ := H
    obtain rfl : 0 = nt_13 := by omega
    clear et_13
    obtain ⟨ab_t_13, ao_t_13, zt_13, At_13, z_t_13, ct_13_0⟩ := strs_at M0.out lt_13
    obtain rfl := Option.some.inj (gt_13.out.symm.trans z_t_13)
    subst At_13
    have ltt_13 := cell_lt ct_13_0
    replace ct_13_0 := cell_below HBw_b_0.out ct_13_0
    clear z_t_13
    have b1t_13 : (0 : Int) < ((sheet.length : Nat) : Int) := by omega
    have b3t_13 : 0 < sheet.length := by omega
    try simp only [Nat.zero_mul, Nat.add_zero, Nat.zero_add, Nat.reduceMul] at ct_13_0
    have Hct_13_0 := Lib.hid ct_13_0
    replace ct_13_0 := cell_regrown ct_13_0
    replace H := idx_hid H
    obtain ⟨nt_18, yt_18, et_18, lt_18, gt_18, H⟩ := H
    obtain rfl : 0 = nt_18 := by omega
    clear et_18
    obtain ⟨ab_t_18, ao_t_18, zt_18, At_18, z_t_18, ct_18_0⟩ := strs_at M1_0.out lt_18
    obtain rfl := Option.some.inj (gt_18.out.symm.trans z_t_18)
    subst At_18
    have ltt_18 := cell_lt ct_18_0
    replace ct_18_0 := cell_below HBw_b_0.out ct_18_0
    clear z_t_18
    have b1t_18 : (0 : Int) < ((b_rows.length : Nat) : Int) := by omega
    have b3t_18 : 0 < b_rows.length := by omega
    try simp only [Nat.zero_mul, Nat.add_zero, Nat.zero_add, Nat.reduceMul] at ct_18_0
    have Hct_18_0 := Lib.hid ct_18_0
    replace ct_18_0 := cell_regrown ct_18_0
    replace H := let_hid H
    obtain ⟨t_21, ht_21, H⟩ := H
    replace H := bind_hid H
    obtain ⟨t_22, qt_22, H⟩ := H
    have nt_22 : ∀ d os, Calls Try.prog 63 #[.int .i64 col, .int .i64 0, .int .i64 t_21] (Go.Sort.grow (redrawn w_b_0 d) os) fun e w'' => e = .returned (.bool t_22) ∧ ∃ p : Regrown, w'' = Go.Sort.grow (redrawn w_b_0 p.d) p.os := fun d os => Calls.regrown_of (Go.Proofs.Ytaepibmmpdfjcaa.GiWithin.C (col) (0) (t_21)  _    qt_22)
    replace H := app_hid H
    replace H := join_hid H
    cases t_22 with
    | false =>
      replace H := ite_f H
      replace H := app_hid H
      refine wp_region_quiet_below (by kernel_rfl) (by kernel_rfl) ?_
      repeat (go_big_quiet_step (first | (go_at_call 63; with_reducible exact nt_9 _ _) | (go_at_call 63; with_reducible exact nt_22 _ _) | (go_at_call 63; exact nt_9 _ _) | (go_at_call 63; exact nt_22 _ _)))
      refine wpQuiet_nil ?_
      intro Y1 hY1
      replace hY1 := below_class hY1
      clear nt_9 nt_22
      replace kb_0_0 := Hkb_0_0.out
      clear Hkb_0_0
      replace ct_13_0 := Hct_13_0.out
      clear Hct_13_0
      replace ct_18_0 := Hct_18_0.out
      clear Hct_18_0
      have HBY1 := Lib.hid (Below.step HBw_b_0.out hY1)
      replace kb_0_0 := cell_below hY1 kb_0_0
      replace ct_13_0 := cell_below hY1 ct_13_0
      replace ct_18_0 := cell_below hY1 ct_18_0
      clear hY1
      obtain rfl := ret_hid H
      go_wp2_with fail
      go_ret
      exact ⟨rfl, HBY1.out⟩
    | true =>
      replace H := ite_t H
      replace H := bind_hid H
      obtain ⟨t_30, qt_30, H⟩ := H
      have nt_30 : ∀ d os, Calls Try.prog 64 #[.slice (some ⟨ab_t_13, ao_t_13, none⟩) sheet.length c0, .slice (some ⟨ab_t_18, ao_t_18, none⟩) b_rows.length c1_0, .int .i64 row_2, .int .i64 col] (Go.Sort.grow (redrawn w_b_0 d) os) fun e w'' => e = .returned (.bool t_30) ∧ ∃ p : Regrown, w'' = Go.Sort.grow (redrawn w_b_0 p.d) p.os := fun d os => Calls.regrown_of (Go.Proofs.Ytaepibmmpdfjcaa.GiAgree.C (sheet) (b_rows) (row_2) (col) (some ⟨ab_t_13, ao_t_13, none⟩) c0 (some ⟨ab_t_18, ao_t_18, none⟩) c1_0 _   (Lib.hid (Cells.below (Cells.below M0.out HBw_b_0.out) (below_regrown _ _ _))) N0 (Lib.hid (Cells.below (Cells.below M1_0.out HBw_b_0.out) (below_regrown _ _ _))) N1_0 qt_30)
      replace H := app_hid H
      refine wp_region_quiet_below (by kernel_rfl) (by kernel_rfl) ?_
      repeat (go_big_quiet_step (first | (go_at_call 63; with_reducible exact nt_9 _ _) | (go_at_call 63; with_reducible exact nt_22 _ _) | (go_at_call 63; exact nt_9 _ _) | (go_at_call 63; exact nt_22 _ _) | (go_at_call 64; exact nt_30 _ _)))
      refine wpQuiet_nil ?_
      intro Y1 hY1
      replace hY1 := below_class hY1
      clear nt_9 nt_22 nt_30
      replace kb_0_0 := Hkb_0_0.out
      clear Hkb_0_0
      replace ct_13_0 := Hct_13_0.out
      clear Hct_13_0
      replace ct_18_0 := Hct_18_0.out
      clear Hct_18_0
      have HBY1 := Lib.hid (Below.step HBw_b_0.out hY1)
      replace kb_0_0 := cell_below hY1 kb_0_0
      replace ct_13_0 := cell_below hY1 ct_13_0
      replace ct_18_0 := cell_below hY1 ct_18_0
      clear hY1
      obtain rfl := ret_hid H
      go_wp2_with fail
      go_ret
      exact ⟨rfl, HBY1.out⟩
end Go.Proofs.Ytaepibmmpdfjcaa.GiFits

/- loop.example/g01062/impl.placesOn as a plain function, and the contract of the program's: where the plain one has an answer, the program has it. Conditions: slices read as lists. -/
namespace Go.Proofs.Ytaepibmmpdfjcaa.GiPlacesOn
set_option linter.unusedVariables false
set_option linter.unusedSimpArgs false
open Go.RowKit
open Go.Proofs.Ytaepibmmpdfjcaa.Rowed Go.Proofs.Ytaepibmmpdfjcaa.Turn Go.Proofs.Ytaepibmmpdfjcaa.Aid Go.Proofs.Ytaepibmmpdfjcaa.GoP Go.Proofs.Ytaepibmmpdfjcaa.GoM

def l1 (sheet : (List ByteArray)) (b_rows : (List ByteArray)) (k0 : Nat) (k1 : Nat) (s : (List Go.Proofs.Ytaepibmmpdfjcaa.PIntA2.IntA2)) (nx1 bk1 : (List Go.Proofs.Ytaepibmmpdfjcaa.PIntA2.IntA2) → Option ((List Go.Proofs.Ytaepibmmpdfjcaa.PIntA2.IntA2))) : Option ((List Go.Proofs.Ytaepibmmpdfjcaa.PIntA2.IntA2)) :=
  letK s fun places_5l1 =>
  Option.bind (Go.Proofs.Ytaepibmmpdfjcaa.GiFits.P sheet b_rows (k0 : Int) (k1 : Int)) fun (t_23 : Bool) =>
  iteK t_23
  (guardK (places_5l1.length ≤ 1099511627776) <|
  letK (places_5l1 ++ [(Go.Proofs.Ytaepibmmpdfjcaa.PIntA2.IntA2.mk (k0 : Int) (k1 : Int))]) fun (t_29 : (List Go.Proofs.Ytaepibmmpdfjcaa.PIntA2.IntA2)) =>
  appK nx1 (t_29))
  (appK nx1 (places_5l1))

def e1 (nx0 : ((List Go.Proofs.Ytaepibmmpdfjcaa.PIntA2.IntA2)) → Option ((List Go.Proofs.Ytaepibmmpdfjcaa.PIntA2.IntA2))) (s : (List Go.Proofs.Ytaepibmmpdfjcaa.PIntA2.IntA2)) : Option ((List Go.Proofs.Ytaepibmmpdfjcaa.PIntA2.IntA2)) :=
  letK s fun places_5l1 =>
  appK nx0 (places_5l1)

def l0 (sheet : (List ByteArray)) (b_rows : (List ByteArray)) (k0 : Nat) (s : (List Go.Proofs.Ytaepibmmpdfjcaa.PIntA2.IntA2)) (nx0 bk0 : (List Go.Proofs.Ytaepibmmpdfjcaa.PIntA2.IntA2) → Option ((List Go.Proofs.Ytaepibmmpdfjcaa.PIntA2.IntA2))) : Option ((List Go.Proofs.Ytaepibmmpdfjcaa.PIntA2.IntA2)) :=
  letK s fun places_5l0 =>
  Option.bind (idx sheet (k0 : Int)) fun (yt_12 : ByteArray) =>
  guardK (yt_12.size ≤ 9223372036854775807) <|
  cntK (l1 sheet b_rows k0) (yt_12.size) 0 (places_5l0) (e1 nx0)

def e0  (s : (List Go.Proofs.Ytaepibmmpdfjcaa.PIntA2.IntA2)) : Option ((List Go.Proofs.Ytaepibmmpdfjcaa.PIntA2.IntA2)) :=
  letK s fun places_5l0 =>
  some places_5l0

def P (sheet : (List ByteArray)) (b_rows : (List ByteArray)) : Option ((List Go.Proofs.Ytaepibmmpdfjcaa.PIntA2.IntA2)) :=
  cntK (l0 sheet b_rows) (sheet.length) 0 (([] : List Go.Proofs.Ytaepibmmpdfjcaa.PIntA2.IntA2)) (e0 )

set_option maxRecDepth 100000 in
set_option maxHeartbeats 2000000 in
theorem C (sheet : (List ByteArray)) (b_rows : (List ByteArray)) (A0 : Option Addr) (c0 : Nat) (A1_0 : Option Addr) (c1_0 : Nat)  (w : World) (M0 : Hid (Cells w 1 A0 sheet.length (sheet.map Value.string))) (N0 : Hid (sheet.length ≤ 9223372036854775807)) (M1_0 : Hid (Cells w 1 A1_0 b_rows.length (b_rows.map Value.string))) (N1_0 : Hid (b_rows.length ≤ 9223372036854775807))  {r : (List Go.Proofs.Ytaepibmmpdfjcaa.PIntA2.IntA2)} (H : Hid (P sheet b_rows = some r)) :
    Calls Try.prog 51 #[.slice A0 sheet.length c0, .agg #[.slice A1_0 b_rows.length c1_0]] w (fun e w' => ∃ A_r c_r, e = .returned (.slice A_r r.length c_r) ∧ w'.ownsRow w.heap.size 37 2 (.slice A_r r.length c_r) r.length (Go.Proofs.Ytaepibmmpdfjcaa.PIntA2.flat r) ∧ Below w.heap.size w w') := by
  have HB := Lib.hid (Below.refl w.heap.size w)
  unfold P at H
  have N0o := N0.out
  have N1_0o := N1_0.out
  obtain ⟨i0_37, hi_37, hz0_37, hz1_37, hz2_37⟩ := Aid.info_parts (P := Try.prog) (T := 37) (z := .agg #[.int .i64 0, .int .i64 0]) (s := 2) (b := 16) (by kernel_rfl)
  go_enter Try.func51, Try.ntmps51
  obtain ⟨w_b_0, hw_b_0⟩ : ∃ x, w.alloc (.cells #[.slice A1_0 b_rows.length c1_0] 26) = x := ⟨_, rfl⟩
  have bw_b_0 : Below w.heap.size w w_b_0 := by rw [← hw_b_0]; exact (Below.refl _ _).alloc (Nat.le_refl _) _
  have HBw_b_0 := Lib.hid (Below.step HB.out bw_b_0)
  clear bw_b_0
  have kb_0_0 : w_b_0.cell? ⟨w.heap.size, 0, none⟩ = some (.slice A1_0 b_rows.length c1_0) := by rw [← hw_b_0]; exact box_new _ _ _ 0 _ rfl
  obtain ⟨w_t_2, hw_t_2⟩ : ∃ x, w_b_0.alloc (.cells #[] 37) = x := ⟨_, rfl⟩
  have bw_t_2 : Below w_b_0.heap.size w_b_0 w_t_2 := by rw [← hw_t_2]; exact (Below.refl _ _).alloc (Nat.le_refl _) _
  have Ot_2 : Hid (w_t_2.ownsRow w.heap.size 37 2 (.slice (some ⟨w_b_0.heap.size, 0, none⟩) 0 0) 0 []) := Lib.hid (by rw [← hw_t_2]; exact own_empty HBw_b_0.out.size)
  have Dt_2_b_0 := Lib.hid (apart_box kb_0_0)
  have HBw_t_2 := Lib.hid (Below.step HBw_b_0.out bw_t_2)
  have kb_0_0__21 := cell_below bw_t_2 kb_0_0
  clear bw_t_2
  go_wp2_with fail
  clear kb_0_0
  go_loopg [11, 5] (sheet.length) (fun m_ v11_ v5_ wr => ∃ (k0 : Nat) (places_5l0 : (List Go.Proofs.Ytaepibmmpdfjcaa.PIntA2.IntA2)) (Aplaces_5l0 : Option Addr) (cplaces_5l0 : Nat), k0 + m_ = sheet.length ∧ v11_ = .int .i64 (k0 : Int) ∧ v5_ = .slice Aplaces_5l0 places_5l0.length cplaces_5l0 ∧ Hid (cntK (l0 sheet b_rows) m_ k0 (places_5l0) (e0 ) = some r) ∧ Hid (Below w.heap.size w wr) ∧ wr.cell? ⟨w.heap.size, 0, none⟩ = some (.slice A1_0 b_rows.length c1_0) ∧ Hid (wr.ownsRow w.heap.size 37 2 (.slice Aplaces_5l0 places_5l0.length cplaces_5l0) places_5l0.length (Go.Proofs.Ytaepibmmpdfjcaa.PIntA2.flat places_5l0)) ∧ Hid (Apart Aplaces_5l0 (some ⟨w.heap.size, 0, none⟩)))
  case atStart => exact ⟨0, _, _, _, by omega, rfl, rfl, H, HBw_t_2, kb_0_0__21, Ot_2, Lib.hid Dt_2_b_0.out⟩
  case round =>
    obtain ⟨k0, places_5l0, Aplaces_5l0, cplaces_5l0, hkm0, rfl, rfl, H, HBwr0, kb_0_0__21, Oplaces_5l0, Dplaces_5l0_b_0⟩ := hrel
    rename World => wr0
    cases gk with
    | zero =>
      obtain rfl : k0 = sheet.length := by omega
      have hc0 : decide (((sheet.length : Nat) : Int) < ((sheet.length : Nat) : Int)) = false := by simp
      replace H := cnt_zero H
      unfold e0 at H
      replace H := let_hid H
      obtain ⟨_, rfl, H⟩ := H
      obtain rfl := ret_hid H
      go_wp2_with fail
      go_ret
      exact ⟨Aplaces_5l0, cplaces_5l0, rfl, Oplaces_5l0.out, HBwr0.out⟩
    | succ m0 =>
      have hlt0 : k0 < sheet.length := by omega
      have hc0 : decide ((k0 : Int) < ((sheet.length : Nat) : Int)) = true := by simp; omega
      replace H := cnt_succ H
      unfold l0 at H
      replace H := let_hid H
      obtain ⟨_, rfl, H⟩ := H
      replace H := idx_hid H
      obtain ⟨nt_12, yt_12, et_12, lt_12, gt_12, H⟩ := H
      obtain rfl : k0 = nt_12 := by omega
      clear et_12
      obtain ⟨ab_t_12, ao_t_12, zt_12, At_12, z_t_12, ct_12_0⟩ := strs_at M0.out lt_12
      obtain rfl := Option.some.inj (gt_12.out.symm.trans z_t_12)
      subst At_12
      have ltt_12 := cell_lt ct_12_0
      replace ct_12_0 := cell_below HBwr0.out ct_12_0
      clear z_t_12
      have b0t_12 : (0 : Int) ≤ (k0 : Int) := by omega
      have b1t_12 : (k0 : Int) < ((sheet.length : Nat) : Int) := by omega
      have b2t_12 : ((k0 : Int)).toNat = k0 := by omega
      replace H := guard_hid H
      obtain ⟨hg1, H⟩ := H
      go_wp2_with fail
      go_loopg [19, 5] (yt_12.size) (fun m_ v19_ v5_ wr => ∃ (k1 : Nat) (places_5l1 : (List Go.Proofs.Ytaepibmmpdfjcaa.PIntA2.IntA2)) (Aplaces_5l1 : Option Addr) (cplaces_5l1 : Nat), k1 + m_ = yt_12.size ∧ v19_ = .int .i64 (k1 : Int) ∧ v5_ = .slice Aplaces_5l1 places_5l1.length cplaces_5l1 ∧ Hid (cntK (l1 sheet b_rows k0) m_ k1 (places_5l1) (e1 (fun s' => cntK (l0 sheet b_rows) m0 (k0 + 1) s' (e0 ))) = some r) ∧ Hid (Below w.heap.size w wr) ∧ wr.cell? ⟨w.heap.size, 0, none⟩ = some (.slice A1_0 b_rows.length c1_0) ∧ Hid (wr.ownsRow w.heap.size 37 2 (.slice Aplaces_5l1 places_5l1.length cplaces_5l1) places_5l1.length (Go.Proofs.Ytaepibmmpdfjcaa.PIntA2.flat places_5l1)) ∧ Hid (Apart Aplaces_5l1 (some ⟨w.heap.size, 0, none⟩)))
      case atStart => exact ⟨0, _, _, _, by omega, rfl, rfl, H, HBwr0, kb_0_0__21, Oplaces_5l0, Lib.hid Dplaces_5l0_b_0.out⟩
      case round =>
        obtain ⟨k1, places_5l1, Aplaces_5l1, cplaces_5l1, hkm1, rfl, rfl, H, HBwr1, kb_0_0__21, Oplaces_5l1, Dplaces_5l1_b_0⟩ := hrel
        rename World => wr1
        cases gk with
        | zero =>
          obtain rfl : k1 = yt_12.size := by omega
          have hc1 : decide (((yt_12.size : Nat) : Int) < ((yt_12.size : Nat) : Int)) = false := by simp
          replace H := cnt_zero H
          unfold e1 at H
          replace H := let_hid H
          obtain ⟨_, rfl, H⟩ := H
          replace H := app_hid H
          go_wp2_with fail
          go_roundg m0
          case measure => omega
          case rel => exact ⟨k0 + 1, _, _, _, by omega, by go_num, rfl, H, HBwr1, kb_0_0__21, Oplaces_5l1, Lib.hid Dplaces_5l1_b_0.out⟩
        | succ m1 =>
          have hlt1 : k1 < yt_12.size := by omega
          have hc1 : decide ((k1 : Int) < ((yt_12.size : Nat) : Int)) = true := by simp; omega
          replace H := cnt_succ H
          unfold l1 at H
          replace H := let_hid H
          obtain ⟨_, rfl, H⟩ := H
          replace H := bind_hid H
          obtain ⟨t_23, qt_23, H⟩ := H
          go_wp2_with fail
          go_at_call 56
          refine (Go.Proofs.Ytaepibmmpdfjcaa.GiFits.C (sheet) (b_rows) ((k0 : Int)) ((k1 : Int)) (some ⟨ab_t_12, ao_t_12, none⟩) c0 A1_0 c1_0 _   (Lib.hid (Cells.below M0.out HBwr1.out)) N0 (Lib.hid (Cells.below M1_0.out HBwr1.out)) N1_0 qt_23).mono ?_
          rintro e_t_23 wt_23 ⟨rfl, bt_23⟩
          have HBwt_23 := Lib.hid (Below.step HBwr1.out bt_23)
          replace kb_0_0__21 := cell_below bt_23 kb_0_0__21
          replace Oplaces_5l1 := Lib.hid (own_below Oplaces_5l1.out bt_23)
          clear bt_23
          cases t_23 with
          | false =>
            replace H := ite_f H
            replace H := app_hid H
            go_wp2_with fail
            go_roundg m1
            case measure => omega
            case rel => exact ⟨k1 + 1, _, _, _, by omega, by go_num, rfl, H, HBwt_23, kb_0_0__21, Oplaces_5l1, Lib.hid Dplaces_5l1_b_0.out⟩
          | true =>
            replace H := ite_t H
            obtain ⟨w_t_28, hw_t_28⟩ : ∃ x, wt_23.alloc (.cells #[.int .i64 (k0 : Int), .int .i64 (k1 : Int)] 37) = x := ⟨_, rfl⟩
            have bw_t_28 : Below wt_23.heap.size wt_23 w_t_28 := by rw [← hw_t_28]; exact (Below.refl _ _).alloc (Nat.le_refl _) _
            have HBw_t_28 := Lib.hid (Below.step HBwt_23.out bw_t_28)
            have kb_0_0__22 := cell_below bw_t_28 kb_0_0__21
            replace Oplaces_5l1 := Lib.hid (own_below Oplaces_5l1.out bw_t_28)
            clear bw_t_28
            replace H := guard_hid H
            obtain ⟨hlt_29, H⟩ := H
            replace H := let_hid H
            obtain ⟨t_29, ht_29, H⟩ := H
            have hht_29 := Lib.hid ht_29
            clear ht_29
            have hst_29 := HBw_t_28.out.size
            go_wp2_with (at_builtin; refine wpList_append_own_at _ rfl _ _ 29 rfl w.heap.size 37 i0_37 (.agg #[.int .i64 0, .int .i64 0]) 2 16 Try.underlying29 hi_37 hz0_37 hz1_37 hz2_37 rfl (by decide) _ _ _ rfl Oplaces_5l1.out ⟨wt_23.heap.size, 0, none⟩ 1 1 [.int .i64 (k0 : Int), .int .i64 (k1 : Int)] rfl rfl (news_new hw_t_28) (one_cells rfl) (by unfold maxLen; omega) (by omega) hst_29 ?_; intro vt_29 wt_29 ot_29 gt_29 zt_29 yt_29; clear zt_29; obtain ⟨qt_29, ct_29, rfl, pt_29⟩ := own_push hht_29.out (Go.Proofs.Ytaepibmmpdfjcaa.PIntA2.flat_snoc _ _) rfl ot_29; have Pt_29 := Lib.hid pt_29; have Yt_29 := Lib.hid yt_29; have Gt_29 := Lib.hid gt_29; clear ot_29 gt_29 pt_29 yt_29; refine stop_in ?_)
            refine stop_out ?_
            have HBwt_29 := Lib.hid (HBw_t_28.out.grown Gt_29.out hst_29 (fun q hq => (Oplaces_5l1.out.lt q hq).1))
            clear hst_29
            have Dt_29_b_0 : Hid (Apart (some ⟨qt_29, 0, none⟩) _) := Lib.hid (apart_app Dplaces_5l1_b_0.out (fun a_ ha_ => by cases ha_; exact cell_lt kb_0_0__22) Yt_29.out)
            replace kb_0_0__22 := cell_other kb_0_0__22 Gt_29.out Dplaces_5l1_b_0.out
            clear kb_0_0__21
            clear Oplaces_5l1 Yt_29 Gt_29
            replace H := app_hid H
            go_wp2_with fail
            go_roundg m1
            case measure => omega
            case rel => exact ⟨k1 + 1, _, _, _, by omega, by go_num, rfl, H, HBwt_29, kb_0_0__22, Pt_29, Lib.hid Dt_29_b_0.out⟩
end Go.Proofs.Ytaepibmmpdfjcaa.GiPlacesOn

/- loop.example/g01062/impl.PlacesFor as a plain function, and the contract of the program's: where the plain one has an answer, the program has it. Conditions: slices read as lists. -/
namespace Go.Proofs.Ytaepibmmpdfjcaa.GiPlacesFor
set_option linter.unusedVariables false
set_option linter.unusedSimpArgs false
open Go.RowKit
open Go.Proofs.Ytaepibmmpdfjcaa.Rowed Go.Proofs.Ytaepibmmpdfjcaa.Turn Go.Proofs.Ytaepibmmpdfjcaa.Aid Go.Proofs.Ytaepibmmpdfjcaa.GoP Go.Proofs.Ytaepibmmpdfjcaa.GoM

def P (sheet : (List ByteArray)) (b_rows : (List ByteArray)) : Option ((List Go.Proofs.Ytaepibmmpdfjcaa.PIntA2.IntA2) × Bool) :=
  Option.bind (Go.Proofs.Ytaepibmmpdfjcaa.GiIsSheet.P sheet) fun (t_4 : Bool) =>
  letK (!t_4) fun (t_5 : Bool) =>
  joinK (fun (t_10 : Bool) =>
  iteK t_10
  (some (([] : List Go.Proofs.Ytaepibmmpdfjcaa.PIntA2.IntA2), false))
  (Option.bind (Go.Proofs.Ytaepibmmpdfjcaa.GiPlacesOn.P sheet b_rows) fun (t_16 : (List Go.Proofs.Ytaepibmmpdfjcaa.PIntA2.IntA2)) =>
  some (t_16, true))) fun jt_10 => iteK t_5 (appK jt_10 true) (Option.bind (Go.Proofs.Ytaepibmmpdfjcaa.GiIsBlock.P b_rows) fun (t_8 : Bool) =>
  letK (!t_8) fun (t_9 : Bool) =>
  appK jt_10 t_9)

set_option maxRecDepth 100000 in
set_option maxHeartbeats 2000000 in
theorem C (sheet : (List ByteArray)) (b_rows : (List ByteArray)) (A0 : Option Addr) (c0 : Nat) (A1_0 : Option Addr) (c1_0 : Nat)  (w : World) (M0 : Hid (Cells w 1 A0 sheet.length (sheet.map Value.string))) (N0 : Hid (sheet.length ≤ 9223372036854775807)) (M1_0 : Hid (Cells w 1 A1_0 b_rows.length (b_rows.map Value.string))) (N1_0 : Hid (b_rows.length ≤ 9223372036854775807))  {r0 : (List Go.Proofs.Ytaepibmmpdfjcaa.PIntA2.IntA2)} {r1 : Bool} (H : Hid (P sheet b_rows = some (r0, r1))) :
    Calls Try.prog 12 #[.slice A0 sheet.length c0, .agg #[.slice A1_0 b_rows.length c1_0]] w (fun e w' => ∃ A_r0 c_r0, e = .returned (.tuple #[.slice A_r0 r0.length c_r0, .bool r1]) ∧ w'.ownsRow w.heap.size 37 2 (.slice A_r0 r0.length c_r0) r0.length (Go.Proofs.Ytaepibmmpdfjcaa.PIntA2.flat r0) ∧ Below w.heap.size w w') := by
  have HB := Lib.hid (Below.refl w.heap.size w)
  unfold P at H
  have N0o := N0.out
  have N1_0o := N1_0.out
  go_enter Try.func12, Try.ntmps12
  obtain ⟨w_b_0, hw_b_0⟩ : ∃ x, w.alloc (.cells #[.slice A1_0 b_rows.length c1_0] 26) = x := ⟨_, rfl⟩
  have bw_b_0 : Below w.heap.size w w_b_0 := by rw [← hw_b_0]; exact (Below.refl _ _).alloc (Nat.le_refl _) _
  have HBw_b_0 := Lib.hid (Below.step HB.out bw_b_0)
  clear bw_b_0
  have kb_0_0 : w_b_0.cell? ⟨w.heap.size, 0, none⟩ = some (.slice A1_0 b_rows.length c1_0) := by rw [← hw_b_0]; exact box_new _ _ _ 0 _ rfl
  replace H := bind_hid H
  obtain ⟨t_4, qt_4, H⟩ := H
  go_wp2_with fail
  go_at_call 15
  refine (Go.Proofs.Ytaepibmmpdfjcaa.GiIsSheet.C (sheet) A0 c0 _   (Lib.hid (Cells.below M0.out HBw_b_0.out)) N0 qt_4).mono ?_
  rintro e_t_4 wt_4 ⟨rfl, bt_4⟩
  have HBwt_4 := Lib.hid (Below.step HBw_b_0.out bt_4)
  replace kb_0_0 := cell_below bt_4 kb_0_0
  clear bt_4
  cases t_4 with
  | false =>
    replace H := let_hid H
    obtain ⟨t_5, ht_5, H⟩ := H
    obtain rfl : t_5 = true := ht_5.symm
    replace H := join_hid H
    replace H := ite_t H
    replace H := app_hid H
    replace H := ite_t H
    obtain ⟨w_t_11, hw_t_11⟩ : ∃ x, wt_4.alloc (.cells #[] 37) = x := ⟨_, rfl⟩
    have bw_t_11 : Below wt_4.heap.size wt_4 w_t_11 := by rw [← hw_t_11]; exact (Below.refl _ _).alloc (Nat.le_refl _) _
    have Ot_11 : Hid (w_t_11.ownsRow w.heap.size 37 2 (.slice (some ⟨wt_4.heap.size, 0, none⟩) 0 0) 0 []) := Lib.hid (by rw [← hw_t_11]; exact own_empty HBwt_4.out.size)
    have Dt_11_b_0 := Lib.hid (apart_box kb_0_0)
    have HBw_t_11 := Lib.hid (Below.step HBwt_4.out bw_t_11)
    have kb_0_0__23 := cell_below bw_t_11 kb_0_0
    clear bw_t_11
    cases ret_hid H
    go_wp2_with fail
    go_ret2
    exact ⟨(some ⟨wt_4.heap.size, 0, none⟩), 0, rfl, Ot_11.out, HBw_t_11.out⟩
  | true =>
    replace H := let_hid H
    obtain ⟨t_5, ht_5, H⟩ := H
    obtain rfl : t_5 = false := ht_5.symm
    replace H := join_hid H
    replace H := ite_f H
    replace H := bind_hid H
    obtain ⟨t_8, qt_8, H⟩ := H
    go_wp2_with fail
    go_at_call 16
    refine (Go.Proofs.Ytaepibmmpdfjcaa.GiIsBlock.C (b_rows) A1_0 c1_0 _   (Lib.hid (Cells.below M1_0.out HBwt_4.out)) N1_0 qt_8).mono ?_
    rintro e_t_8 wt_8 ⟨rfl, bt_8⟩
    have HBwt_8 := Lib.hid (Below.step HBwt_4.out bt_8)
    replace kb_0_0 := cell_below bt_8 kb_0_0
    clear bt_8
    cases t_8 with
    | false =>
      replace H := let_hid H
      obtain ⟨t_9, ht_9, H⟩ := H
      obtain rfl : t_9 = true := ht_9.symm
      replace H := app_hid H
      replace H := ite_t H
      obtain ⟨w_t_11, hw_t_11⟩ : ∃ x, wt_8.alloc (.cells #[] 37) = x := ⟨_, rfl⟩
      have bw_t_11 : Below wt_8.heap.size wt_8 w_t_11 := by rw [← hw_t_11]; exact (Below.refl _ _).alloc (Nat.le_refl _) _
      have Ot_11 : Hid (w_t_11.ownsRow w.heap.size 37 2 (.slice (some ⟨wt_8.heap.size, 0, none⟩) 0 0) 0 []) := Lib.hid (by rw [← hw_t_11]; exact own_empty HBwt_8.out.size)
      have Dt_11_b_0 := Lib.hid (apart_box kb_0_0)
      have HBw_t_11 := Lib.hid (Below.step HBwt_8.out bw_t_11)
      have kb_0_0__24 := cell_below bw_t_11 kb_0_0
      clear bw_t_11
      cases ret_hid H
      go_wp2_with fail
      go_ret2
      exact ⟨(some ⟨wt_8.heap.size, 0, none⟩), 0, rfl, Ot_11.out, HBw_t_11.out⟩
    | true =>
      replace H := let_hid H
      obtain ⟨t_9, ht_9, H⟩ := H
      obtain rfl : t_9 = false := ht_9.symm
      replace H := app_hid H
      replace H := ite_f H
      replace H := bind_hid H
      obtain ⟨t_16, qt_16, H⟩ := H
      go_wp2_with fail
      go_at_call 51
      refine (Go.Proofs.Ytaepibmmpdfjcaa.GiPlacesOn.C (sheet) (b_rows) A0 c0 A1_0 c1_0 _   (Lib.hid (Cells.below M0.out HBwt_8.out)) N0 (Lib.hid (Cells.below M1_0.out HBwt_8.out)) N1_0 qt_16).mono ?_
      rintro e_t_16 wt_16 ⟨At_16, ct_16, rfl, ot_16, bt_16⟩
      have Dt_16_b_0 := Lib.hid (apart_callbox ot_16 kb_0_0)
      have Ot_16 := Lib.hid (own_lower ot_16 HBwt_8.out.size)
      clear ot_16
      have HBwt_16 := Lib.hid (Below.step HBwt_8.out bt_16)
      replace kb_0_0 := cell_below bt_16 kb_0_0
      clear bt_16
      cases ret_hid H
      go_wp2_with fail
      go_ret2
      exact ⟨At_16, ct_16, rfl, Ot_16.out, HBwt_16.out⟩
end Go.Proofs.Ytaepibmmpdfjcaa.GiPlacesFor

